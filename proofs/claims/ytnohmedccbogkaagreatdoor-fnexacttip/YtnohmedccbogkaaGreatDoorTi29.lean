import Derived.Test.YtnohmedccbogkaaGreatDoorTi0
import Derived.Lib.ConvBytes
import Derived.Laws.BytesArg
import Derived.Test.YtnohmedccbogkaaGreatDoorTi1
import Derived.Deep.Cut
import Derived.Test.YtnohmedccbogkaaGreatDoorTi2
import Derived.Test.YtnohmedccbogkaaGreatDoorTi28
import Derived.Test.YtnohmedccbogkaaGreatDoorTi5
/- The bytes of a text. -/
namespace Go.Proofs.YtnohmedccbogkaaGreatDoor
open Go.RowKit
set_option linter.unusedVariables false

def nb (s : ByteArray) : List Int := s.data.toList.map fun b => (b.toNat : Int)
theorem nb_len (s : ByteArray) : (nb s).length = s.size := by
  rw [nb, List.length_map, Array.length_toList]
  rfl
theorem nb_getD (s : ByteArray) (j : Nat) : (nb s).getD j 0 = ((s.data.toList.getD j 0).toNat : Int) := by
  unfold nb
  by_cases h : j < s.data.toList.length
  · simp only [List.getD_eq_getElem?_getD, List.getElem?_map, List.getElem?_eq_getElem h]
    rfl
  · simp only [List.getD_eq_getElem?_getD, List.getElem?_map, List.getElem?_eq_none (Nat.not_lt.1 h)]
    rfl
theorem nb_isB (s : ByteArray) : IsB (nb s) := fun i => by
  rw [nb_getD]
  have := (s.data.toList.getD i 0).toNat_lt
  omega
theorem conv_strD (s : ByteArray) (w : World) : (convert 9 70 (.string s)).run Tryz.prog w = .ok (.slice (some ⟨w.heap.size, 0, none⟩) s.size (grownCap w s.size 0 5)) (Go.Lib.bytesWorld w 5 s) :=
  Go.Lib.run_convert_string_bytes w _ _ 5 s Tryz.underlying9 Tryz.underlying70 Tryz.underlying5
theorem below_str (s : ByteArray) (w : World) : Below w.heap.size w (Go.Lib.bytesWorld w 5 s) :=
  ⟨rfl, rfl, rfl, by rw [Go.Lib.bytesWorld_size]; omega, fun k hk => Go.Lib.bytesWorld_at_old w _ s k hk⟩
theorem size_str (s : ByteArray) (w : World) : (Go.Lib.bytesWorld w 5 s).heap.size = w.heap.size + 1 := Go.Lib.bytesWorld_size w _ s
theorem bs_str (s : ByteArray) (w : World) (h : s.size ≤ 1048576) : Bs (Go.Lib.bytesWorld w 5 s) (some ⟨w.heap.size, 0, none⟩) s.size (grownCap w s.size 0 5) (nb s) :=
  ⟨nb_len s, grownCap_ge _ _ _ _, grownCap_le_maxLen _ _ _ _ (by unfold maxLen; omega), fun e => (by cases e), fun _ => ⟨w.heap.size, 0, rfl, by rw [size_str]; omega, fun i hi => by
    rw [show 0 + i = i by omega, Go.Lib.bytesWorld_cell w _ s i hi, nb_getD]⟩, nb_isB s⟩
end Go.Proofs.YtnohmedccbogkaaGreatDoor

/- Hashes: their bytes, their copies. -/
namespace Go.Proofs.YtnohmedccbogkaaGreatDoor
open Go.RowKit
set_option linter.unusedVariables false


end Go.Proofs.YtnohmedccbogkaaGreatDoor

/- The specification's hash out of bytes. -/
namespace Go.Proofs.YtnohmedccbogkaaGreatDoor
open Go.RowKit
set_option linter.unusedVariables false

def zH : List Value := ob (List.replicate 32 0)
theorem zH_all : zH.toArray.all (·.oneCell') = true := ob_all _
theorem built_h0 : Tryz.prog.built 32 [] = some zH.toArray := by kernel_rfl

set_option maxHeartbeats 1000000 in
set_option maxRecDepth 100000 in
theorem l5Hash_calls (a : Option Addr) (c : Nat) (l : List Int) (w : World) (h : Bs w a 32 c l) :
    Calls Tryz.prog 50 #[.slice a 32 c] w fun e w' => e = .returned (hA l) ∧ Below w.heap.size w w' := by
  have hl := h.len_eq
  obtain ⟨b, off, rfl, hlb, hc⟩ := h.at_ (by omega)
  have k1 := blk_new w 32 zH.toArray
  have q1 : Below w.heap.size w (w.alloc (Obj.cells zH.toArray 32)) := (Below.refl _ _).alloc (Nat.le_refl _) _
  have z1 : (w.alloc (Obj.cells zH.toArray 32)).heap.size = w.heap.size + 1 := by simp
  have s0 : (Tryz.prog.info? 32).map (·.size) = some zH.toArray.size := sizeH
  go_enter Tryz.func50, Tryz.ntmps50
  go_upto_region 1 with fail
  change Code.wp _ _ _ _ (w.alloc (Obj.cells zH.toArray 32))
  generalize w.alloc (Obj.cells zH.toArray 32) = W0 at *
  have HZ1 : Hid (W0.heap.size = w.heap.size + 1) := z1
  clear z1
  have k2 := blk_new W0 32 zH.toArray
  have q2 : Below W0.heap.size W0 (W0.alloc (Obj.cells zH.toArray 32)) := (Below.refl _ _).alloc (Nat.le_refl _) _
  have k1' := k1.below q2
  have bb := q1.trans (q2.mono q1.size)
  go_upto_region 2 with (first | (refine wpList_build1 rfl _ _ rfl built_h0 ?_) | (refine wpList_storeNew rfl 32 _ _ rfl W0 zH.toArray zH.toArray 32 rfl rfl s0 rfl zH_all ?_))
  change Code.wp _ _ _ _ (W0.alloc (Obj.cells zH.toArray 32))
  generalize W0.alloc (Obj.cells zH.toArray 32) = W at *
  have hz0 : w.heap.size < W0.heap.size := by have := HZ1.out; omega
  have kR : Blk W 32 w.heap.size zH := k1'
  have kO : Blk W 32 (W0.heap.size) zH := k2
  have HK : Hid _ := And.intro hc (And.intro kR (And.intro kO bb))
  clear k1 k2 k1' bb kR kO hc h s0 q1 q2
  go_wp2
  go_loopw [4] (fun i wr => ∃ j, j ≤ 32 ∧ i = .int .i64 (j : Nat) ∧ OnlyB (W0.heap.size) W wr ∧ Blk wr 32 (W0.heap.size) (ob (upToA l j))) (fun i _ => 32 - (intOf i).toNat)
  case atStart => exact ⟨0, Nat.zero_le _, rfl, OnlyB.refl _ _, by rw [upToA_zero, hl]; exact HK.out.2.2.1⟩
  case round =>
    obtain ⟨j, hj, rfl, ho, hk⟩ := hrel
    by_cases hlt : j < 32
    · have cc : wr.cell? ⟨b, off + j, none⟩ = some (.int .u8 (l.getD j 0)) := by
        have hb := HK.out.2.2.2
        rw [World.cell?_of_block (a := ⟨b, off + j, none⟩) ((ho.block b (Nat.lt_of_lt_of_le hlb hb.size) (by omega)).trans (hb.block b hlb))]
        exact HK.out.1 j hlt
      have c0 : wr.cell? ⟨W0.heap.size, j, none⟩ = some (.int .u8 ((upToA l j).getD j 0)) := by rw [hk.cell]; exact ob_getElem? _ j (by rw [upToA_len _ _ (by omega)]; omega)
      have f0 := hk.free j
      have st := hk.set j (.int .u8 (l.getD j 0))
      rw [ob_set, upToA_set _ _ (by omega)] at st
      have so := ho.trans (onlyB_setCell wr (W0.heap.size) j (.int .u8 (l.getD j 0)))
      have HST : Hid _ := And.intro st so
      have hj32 : (j : Int) < 32 := by omega
      clear st so hk ho
      generalize l.getD j 0 = x at *
      generalize (upToA l j).getD j 0 = y at *
      go_wp2
      go_roundw
      case rel => exact ⟨j + 1, by omega, by go_num, HST.out.2, HST.out.1⟩
      case measure => simp [intOf]; omega
    · have e : j = 32 := by omega
      subst e
      rw [upToA_full _ _ hl.symm] at hk
      have kR := HK.out.2.1.only ho (by omega)
      have s1 : (Tryz.prog.info? 32).map (·.size) = some (ob l).toArray.size := by rw [ob_size, hl]; exact sizeH
      have kF := kR.setRow (ob l)
      have oF := onlyB_setRow wr w.heap.size (ob l).toArray
      have bF : Below w.heap.size w (wr.setRow w.heap.size (ob l).toArray) :=
        (HK.out.2.2.2.trans (ho.below (by omega) HK.out.2.2.2.size)).trans (oF.below (by omega) (by have := kR.lt; omega))
      go_upto_region 6 with fail
      go_wp2_with (first | (refine wpList_load_row rfl 32 _ rfl (W0.heap.size) rfl 32 (ob l).toArray (0, 0) _ hk Tryz.underlying32 rfl s1 ?_) | (refine wpList_store_row rfl 32 _ _ rfl w.heap.size (ob l).toArray rfl rfl 32 _ kR s1 ?o1 (ob_all _) ?_))
      case o1 => rw [ob_size, hl]; rfl
      refine bodyPost_ret (v := hA l) ?_ rfl ⟨rfl, bF⟩
      exact results_cell_row Tryz.results50 _ _ w.heap.size 32 (ob l).toArray (0, 0) _ rfl kF Tryz.underlying32 rfl s1
end Go.Proofs.YtnohmedccbogkaaGreatDoor

/- The tip, in the specification. -/
namespace Go.Proofs.YtnohmedccbogkaaGreatDoor
open Go.RowKit
set_option linter.unusedVariables false

/-- Two results: a slot, and a struct or an array in memory. -/
theorem results_tmpCell {P : Program} {fn : Func} {p q : Tmp} {ty : TypeId} (h : fn.results = #[.tmp q, .cell p ty]) (tmps : Array Value) (w : World) (g : Nat) (t : TypeId) (cs : Array Value) (d : TypeDesc) {v : Value}
    (hp : tmps.getD p undef = .pointer (some ⟨g, 0, none⟩)) (hg : w.heap[g]? = some (.cells cs t (0, 0)))
    (hu : P.underlying ty = some d) (hd : (match d with | .struct _ | .array _ _ => true | _ => false) = true) (hi : (P.info? ty).map (·.size) = some cs.size) (hq : tmps.getD q undef = v) :
    (results fn tmps).run P w = .ok (.tuple #[v, .agg cs]) w := by
  have hp' : tmps[p]?.getD undef = .pointer (some ⟨g, 0, none⟩) := by simpa using hp
  have hq' : tmps[q]?.getD undef = v := by simpa using hq
  simp [results, h, hp', hq', asAddr, run_loadVar_row w g t ty cs (0, 0) d hg hu hd hi]

/-- The tip that an entry names. -/
def tpH (o : Option (ByteArray × ByteArray)) : Int := match o with | some e => if e.2.size = 36 then low ((nb e.2).take 4) else 0 | none => 0
def tpI (o : Option (ByteArray × ByteArray)) : List Int := match o with | some e => if e.2.size = 36 then (nb e.2).drop 4 else List.replicate 32 0 | none => List.replicate 32 0
theorem tpI_len (o : Option (ByteArray × ByteArray)) : (tpI o).length = 32 := by
  unfold tpI
  split
  · split
    · rw [List.length_drop, nb_len]; omega
    · simp
  · simp
theorem nb_take (v : ByteArray) (k : Nat) (hk : k ≤ v.size) : nb (v.extract 0 k) = (nb v).take k := by
  unfold nb
  rw [← List.map_take]
  congr 1
  simp [ByteArray.data_extract]
theorem nb_drop (v : ByteArray) (k : Nat) (hk : k ≤ v.size) : nb (v.extract k v.size) = (nb v).drop k := by
  unfold nb
  rw [← List.map_drop]
  congr 1
  rw [ByteArray.data_extract, Array.toList_extract]
  simp
  exact List.take_of_length_le (by rw [List.length_drop]; exact Nat.le_refl _)

/-- The hash is put where the answer lies. -/
theorem hash_end {w W0 u : World} {g : Nat} {l : List Int} (k0 : Blk W0 32 g zH) (q0 : Below w.heap.size w W0) (hg : w.heap.size ≤ g) (b : Below W0.heap.size W0 u) : Blk u 32 g zH ∧ Below w.heap.size w (u.setRow g (ob l).toArray) ∧ Blk (u.setRow g (ob l).toArray) 32 g (ob l) := by
  have kR := k0.below b
  have oF := onlyB_setRow u g (ob l).toArray
  have bu := q0.trans (b.mono q0.size)
  exact ⟨kR, bu.trans (oF.below hg bu.size), kR.setRow (ob l)⟩

set_option maxHeartbeats 8000000 in
set_option maxRecDepth 100000 in
theorem l6Tip_calls (es : List (ByteArray × ByteArray)) (hs : (es.map (·.1)).Pairwise (fun a b => sl a b = true)) (hl : es.length ≤ 1048576) (a : Option Addr) (c B : Nat) (w : World) (h : ORow 93 2 B w a es.length c (enF es)) :
    Calls Tryz.prog 39 #[.slice a es.length c] w fun e w' => e = .returned (.tuple #[.int .i64 (tpH (gtE es ⟨#[116]⟩)), hA (tpI (gtE es ⟨#[116]⟩))]) ∧ Below w.heap.size w w' := by
  have k0 := blk_new w 32 zH.toArray
  have q0 : Below w.heap.size w (w.alloc (Obj.cells zH.toArray 32)) := (Below.refl _ _).alloc (Nat.le_refl _) _
  have F0 := l6Find_calls es hs hl a c B ⟨#[116]⟩ (w.alloc (Obj.cells zH.toArray 32)) (h.below q0)
  have s0 : (Tryz.prog.info? 32).map (·.size) = some zH.toArray.size := sizeH
  clear h hs
  generalize gtE es ⟨#[116]⟩ = o at F0 ⊢
  go_enter Tryz.func39, Tryz.ntmps39
  go_upto_region 1 with fail
  change Code.wp _ _ _ _ (w.alloc (Obj.cells zH.toArray 32))
  generalize w.alloc (Obj.cells zH.toArray 32) = W0 at *
  have k0' : Blk W0 32 w.heap.size zH := k0
  have HE : Hid (∀ u l, Below W0.heap.size W0 u → Blk u 32 w.heap.size zH ∧ Below w.heap.size w (u.setRow w.heap.size (ob l).toArray) ∧ Blk (u.setRow w.heap.size (ob l).toArray) 32 w.heap.size (ob l)) := fun u l b => hash_end k0' q0 (Nat.le_refl _) b
  clear k0 k0' q0
  cases o with
  | none =>
    unfold gtV at F0
    go_wp2_with fail
    refine F0.mono ?_
    rintro e w1 ⟨rfl, hw⟩
    obtain rfl := hw.symm
    clear hw F0
    obtain ⟨kR, bF, kF⟩ := HE.out W0 (List.replicate 32 0) (Below.refl _ _)
    go_wp2_with (first | (refine wpList_build1 rfl _ _ rfl built_h0 ?_) | (refine wpList_store_row rfl 32 _ _ rfl w.heap.size zH.toArray rfl rfl 32 _ kR s0 rfl zH_all ?_))
    refine bodyPost_ret (v := .tuple #[.int .i64 (tpH none), hA (tpI none)]) ?_ rfl ⟨rfl, bF⟩
    exact results_tmpCell Tryz.results39 _ _ w.heap.size 32 (ob (List.replicate 32 0)).toArray _ rfl kF Tryz.underlying32 rfl s0 rfl
  | some en =>
    obtain ⟨ky, v⟩ := en
    unfold gtV at F0
    dsimp only at F0
    go_wp2_with fail
    refine F0.mono ?_
    rintro e w1 ⟨rfl, hw⟩
    obtain rfl := hw.symm
    clear hw F0
    by_cases hsz : v.size = 36
    · have hsz' : (v.size : Int) = 36 := by omega
      have HT : Hid (tpH (some (ky, v)) = low ((nb v).take 4) ∧ tpI (some (ky, v)) = (nb v).drop 4) := by
        unfold tpH tpI
        dsimp only
        rw [if_pos hsz, if_pos hsz]
        exact ⟨rfl, rfl⟩
      have HSZ : Hid (v.size = 36) := hsz
      clear hsz
      have hx4 : (v.extract 0 4).size = 4 := by rw [← nb_len, nb_take v 4 (by rw [HSZ.out]; omega), List.length_take, nb_len, HSZ.out]; rfl
      have hx32 : (v.extract 4 v.size).size = 32 := by rw [← nb_len, nb_drop v 4 (by rw [HSZ.out]; omega), List.length_drop, nb_len, HSZ.out]
      rw [← nb_take v 4 (by rw [HSZ.out]; omega), ← nb_drop v 4 (by rw [HSZ.out]; omega)] at HT
      have hsz4 : (4 : Int) ≤ (v.size : Int) := by omega
      go_upto_region 4 with fail
      have dd : Below W0.heap.size W0 W0.drew := ⟨rfl, rfl, rfl, Nat.le_refl _, fun _ _ => rfl⟩
      refine wp_regionD (fun _ => True) (fun k => decide (10 ≤ k)) (by kernel_rfl) ?_
      refine wpAnyD_takeT 0 19 (v := ?vva0) rfl rfl (by kernel_rfl) (by kernel_rfl) (by kernel_rfl) (by kernel_rfl) (fun _ _ _ h => h) (Or.inl ⟨by rfl, ?hya0⟩) trivial ?resta0
      case hya0 => (intro w hSw; (try dsimp only at hSw); go_simp; try with_reducible rfl)
      simp only [Act.put, List.setIfInBounds_toArray, List.set_cons_zero, List.set_cons_succ]
      refine wpAnyD_takeT 1 20 (v := ?vva1) rfl rfl (by kernel_rfl) (by kernel_rfl) (by kernel_rfl) (by kernel_rfl) (fun _ _ _ h => h) (Or.inl ⟨by rfl, ?hya1⟩) trivial ?resta1
      case hya1 => (intro w hSw; (try dsimp only at hSw); go_simp; try with_reducible rfl)
      simp only [Act.put, List.setIfInBounds_toArray, List.set_cons_zero, List.set_cons_succ]
      refine wpAnyD_takeT 4 23 (v := ?vva2) rfl rfl (by kernel_rfl) (by kernel_rfl) (by kernel_rfl) (by kernel_rfl) (fun _ _ _ h => h) (Or.inl ⟨by rfl, ?hya2⟩) trivial ?resta2
      case hya2 => (intro w hSw; (try dsimp only at hSw); go_simp; try with_reducible rfl)
      simp only [Act.put, List.setIfInBounds_toArray, List.set_cons_zero, List.set_cons_succ]
      refine wpAnyD_takeT 5 24 (v := ?vva3) rfl rfl (by kernel_rfl) (by kernel_rfl) (by kernel_rfl) (by kernel_rfl) (fun _ _ _ h => h) (Or.inl ⟨by rfl, ?hya3⟩) trivial ?resta3
      case hya3 => (intro w hSw; (try dsimp only at hSw); go_simp; try with_reducible rfl)
      simp only [Act.put, List.setIfInBounds_toArray, List.set_cons_zero, List.set_cons_succ]
      generalize v.extract 0 4 = s4 at *
      generalize v.extract 4 v.size = s32 at *
      have Hs4 : Hid (s4.size = 4) := hx4
      have Hs32 : Hid (s32.size = 32) := hx32
      have hl32 : (nb s32).length = 32 := by rw [nb_len, Hs32.out]
      have s1 : (Tryz.prog.info? 32).map (·.size) = some (ob (nb s32)).toArray.size := by rw [ob_size, hl32]; exact sizeH
      clear hx4 hx32 HSZ hsz4
      generalize W0.drew = wD at *
      refine wpAnyD_two 2 6 (by kernel_rfl) rfl rfl (fun KK hK => ?xf) (fun KK hK => ?xs)
      case xf =>
        rw [if_pos (show Region.wanted _ _ = true from rfl)]
        have kc := conv_strD s4 wD
        have quA := below_str s4 wD
        have RuA := bs_str s4 wD (by rw [Hs4.out]; omega)
        rw [Hs4.out] at kc RuA
        generalize grownCap wD 4 0 5 = cuA at *
        generalize Go.Lib.bytesWorld wD 5 s4 = uA at *
        go_wp2_with fail
        clear kc
        refine hK.out _ _ (fun _ => trivial) ?_
        clear hK KK
        refine wpAnyD_two 3 6 (by kernel_rfl) rfl rfl (fun KK hK => ?yf) (fun KK hK => ?ys)
        case yf =>
          rw [if_pos (show Region.wanted _ _ = true from rfl)]
          have LC := l2Low_calls _ _ _ _ uA RuA (by omega)
          go_wp2_with fail
          refine LC.mono ?_
          rintro e u9 ⟨rfl, hw⟩
          obtain rfl := hw.symm
          clear hw LC
          go_wp2_with fail
          refine hK.out _ _ (fun _ => trivial) ?_
          clear hK KK
          refine wpAnyD_one 6 (by kernel_rfl) rfl (fun KK hK => ?_)
          rw [if_pos (show Region.wanted _ _ = true from rfl)]
          have kc := conv_strD s32 uA
          have quB := below_str s32 uA
          have RuB := bs_str s32 uA (by rw [Hs32.out]; omega)
          rw [Hs32.out] at kc RuB
          generalize grownCap uA 32 0 5 = cuB at *
          generalize Go.Lib.bytesWorld uA 5 s32 = uB at *
          go_wp2_with fail
          clear kc
          refine hK.out _ _ (fun _ => trivial) ?_
          clear hK KK
          refine wpAnyD_one 7 (by kernel_rfl) rfl (fun KK hK => ?_)
          rw [if_pos (show Region.wanted _ _ = true from rfl)]
          have HC := l5Hash_calls _ _ _ uB RuB
          have B9 : Hid _ := dd.trans ((quA.mono dd.size).trans (quB.mono (by have := dd.size; have := quA.size; omega)))
          go_wp2_with fail
          refine HC.mono ?_
          rintro e u8 ⟨rfl, b8⟩
          obtain ⟨kR, bF, kF⟩ := HE.out u8 (nb s32) (B9.out.trans (b8.mono B9.out.size))
          clear HC b8
          go_wp2_with fail
          refine hK.out _ _ (fun _ => trivial) ?_
          clear hK KK
          refine wpAnyD_takeT 8 2 (v := ?vvz1) rfl rfl (by kernel_rfl) (by kernel_rfl) (by kernel_rfl) (by kernel_rfl) (fun _ _ _ h => h) (Or.inl ⟨by rfl, ?hyz1⟩) trivial ?restz1
          case hyz1 => (intro w hSw; (try dsimp only at hSw); go_simp; try with_reducible rfl)
          simp only [Act.put, List.setIfInBounds_toArray, List.set_cons_zero, List.set_cons_succ]
          refine wpAnyD_one 9 (by kernel_rfl) rfl (fun KK hK => ?_)
          rw [if_pos (show Region.wanted _ _ = true from rfl)]
          refine wp_store_row 32 _ _ rfl w.heap.size (ob (nb s32)).toArray rfl rfl 32 _ kR s1 (by rw [ob_size, hl32]; rfl) (ob_all _) ?_
          refine hK.out _ _ (fun _ => trivial) ?_
          clear hK KK
          refine wpAnyD_done (by kernel_rfl) ?_ _
          go_wp2_with fail
          rw [HT.out.1, HT.out.2]
          refine bodyPost_ret (v := .tuple #[.int .i64 (low (nb s4)), hA (nb s32)]) ?_ rfl ⟨rfl, bF⟩
          exact results_tmpCell Tryz.results39 _ _ w.heap.size 32 (ob (nb s32)).toArray _ rfl kF Tryz.underlying32 rfl s1 rfl
        case ys =>
          rw [if_pos (show Region.wanted _ _ = true from rfl)]
          have kc := conv_strD s32 uA
          have quB := below_str s32 uA
          have RuB := bs_str s32 uA (by rw [Hs32.out]; omega)
          rw [Hs32.out] at kc RuB
          generalize grownCap uA 32 0 5 = cuB at *
          generalize Go.Lib.bytesWorld uA 5 s32 = uB at *
          go_wp2_with fail
          clear kc
          refine hK.out _ _ (fun _ => trivial) ?_
          clear hK KK
          refine wpAnyD_one 3 (by kernel_rfl) rfl (fun KK hK => ?_)
          rw [if_pos (show Region.wanted _ _ = true from rfl)]
          have LC := l2Low_calls _ _ _ _ uB (RuA.below quB) (by omega)
          go_wp2_with fail
          refine LC.mono ?_
          rintro e u9 ⟨rfl, hw⟩
          obtain rfl := hw.symm
          clear hw LC
          go_wp2_with fail
          refine hK.out _ _ (fun _ => trivial) ?_
          clear hK KK
          refine wpAnyD_one 7 (by kernel_rfl) rfl (fun KK hK => ?_)
          rw [if_pos (show Region.wanted _ _ = true from rfl)]
          have HC := l5Hash_calls _ _ _ uB RuB
          have B9 : Hid _ := dd.trans ((quA.mono dd.size).trans (quB.mono (by have := dd.size; have := quA.size; omega)))
          go_wp2_with fail
          refine HC.mono ?_
          rintro e u8 ⟨rfl, b8⟩
          obtain ⟨kR, bF, kF⟩ := HE.out u8 (nb s32) (B9.out.trans (b8.mono B9.out.size))
          clear HC b8
          go_wp2_with fail
          refine hK.out _ _ (fun _ => trivial) ?_
          clear hK KK
          refine wpAnyD_takeT 8 2 (v := ?vvz2) rfl rfl (by kernel_rfl) (by kernel_rfl) (by kernel_rfl) (by kernel_rfl) (fun _ _ _ h => h) (Or.inl ⟨by rfl, ?hyz2⟩) trivial ?restz2
          case hyz2 => (intro w hSw; (try dsimp only at hSw); go_simp; try with_reducible rfl)
          simp only [Act.put, List.setIfInBounds_toArray, List.set_cons_zero, List.set_cons_succ]
          refine wpAnyD_one 9 (by kernel_rfl) rfl (fun KK hK => ?_)
          rw [if_pos (show Region.wanted _ _ = true from rfl)]
          refine wp_store_row 32 _ _ rfl w.heap.size (ob (nb s32)).toArray rfl rfl 32 _ kR s1 (by rw [ob_size, hl32]; rfl) (ob_all _) ?_
          refine hK.out _ _ (fun _ => trivial) ?_
          clear hK KK
          refine wpAnyD_done (by kernel_rfl) ?_ _
          go_wp2_with fail
          rw [HT.out.1, HT.out.2]
          refine bodyPost_ret (v := .tuple #[.int .i64 (low (nb s4)), hA (nb s32)]) ?_ rfl ⟨rfl, bF⟩
          exact results_tmpCell Tryz.results39 _ _ w.heap.size 32 (ob (nb s32)).toArray _ rfl kF Tryz.underlying32 rfl s1 rfl
      case xs =>
        rw [if_pos (show Region.wanted _ _ = true from rfl)]
        have kc := conv_strD s32 wD
        have quB := below_str s32 wD
        have RuB := bs_str s32 wD (by rw [Hs32.out]; omega)
        rw [Hs32.out] at kc RuB
        generalize grownCap wD 32 0 5 = cuB at *
        generalize Go.Lib.bytesWorld wD 5 s32 = uB at *
        go_wp2_with fail
        clear kc
        refine hK.out _ _ (fun _ => trivial) ?_
        clear hK KK
        refine wpAnyD_one 2 (by kernel_rfl) rfl (fun KK hK => ?_)
        rw [if_pos (show Region.wanted _ _ = true from rfl)]
        have kc := conv_strD s4 uB
        have quA := below_str s4 uB
        have RuA := bs_str s4 uB (by rw [Hs4.out]; omega)
        rw [Hs4.out] at kc RuA
        generalize grownCap uB 4 0 5 = cuA at *
        generalize Go.Lib.bytesWorld uB 5 s4 = uA at *
        go_wp2_with fail
        clear kc
        refine hK.out _ _ (fun _ => trivial) ?_
        clear hK KK
        refine wpAnyD_one 3 (by kernel_rfl) rfl (fun KK hK => ?_)
        rw [if_pos (show Region.wanted _ _ = true from rfl)]
        have LC := l2Low_calls _ _ _ _ uA RuA (by omega)
        go_wp2_with fail
        refine LC.mono ?_
        rintro e u9 ⟨rfl, hw⟩
        obtain rfl := hw.symm
        clear hw LC
        go_wp2_with fail
        refine hK.out _ _ (fun _ => trivial) ?_
        clear hK KK
        refine wpAnyD_one 7 (by kernel_rfl) rfl (fun KK hK => ?_)
        rw [if_pos (show Region.wanted _ _ = true from rfl)]
        have HC := l5Hash_calls _ _ _ uA (RuB.below quA)
        have B9 : Hid _ := dd.trans ((quB.mono dd.size).trans (quA.mono (by have := dd.size; have := quB.size; omega)))
        go_wp2_with fail
        refine HC.mono ?_
        rintro e u8 ⟨rfl, b8⟩
        obtain ⟨kR, bF, kF⟩ := HE.out u8 (nb s32) (B9.out.trans (b8.mono B9.out.size))
        clear HC b8
        go_wp2_with fail
        refine hK.out _ _ (fun _ => trivial) ?_
        clear hK KK
        refine wpAnyD_takeT 8 2 (v := ?vvz3) rfl rfl (by kernel_rfl) (by kernel_rfl) (by kernel_rfl) (by kernel_rfl) (fun _ _ _ h => h) (Or.inl ⟨by rfl, ?hyz3⟩) trivial ?restz3
        case hyz3 => (intro w hSw; (try dsimp only at hSw); go_simp; try with_reducible rfl)
        simp only [Act.put, List.setIfInBounds_toArray, List.set_cons_zero, List.set_cons_succ]
        refine wpAnyD_one 9 (by kernel_rfl) rfl (fun KK hK => ?_)
        rw [if_pos (show Region.wanted _ _ = true from rfl)]
        refine wp_store_row 32 _ _ rfl w.heap.size (ob (nb s32)).toArray rfl rfl 32 _ kR s1 (by rw [ob_size, hl32]; rfl) (ob_all _) ?_
        refine hK.out _ _ (fun _ => trivial) ?_
        clear hK KK
        refine wpAnyD_done (by kernel_rfl) ?_ _
        go_wp2_with fail
        rw [HT.out.1, HT.out.2]
        refine bodyPost_ret (v := .tuple #[.int .i64 (low (nb s4)), hA (nb s32)]) ?_ rfl ⟨rfl, bF⟩
        exact results_tmpCell Tryz.results39 _ _ w.heap.size 32 (ob (nb s32)).toArray _ rfl kF Tryz.underlying32 rfl s1 rfl
    · have hsz' : ¬ (v.size : Int) = 36 := by omega
      have HT : Hid (tpH (some (ky, v)) = 0 ∧ tpI (some (ky, v)) = List.replicate 32 0) := by
        unfold tpH tpI
        dsimp only
        rw [if_neg hsz, if_neg hsz]
        exact ⟨rfl, rfl⟩
      clear hsz
      obtain ⟨kR, bF, kF⟩ := HE.out W0 (List.replicate 32 0) (Below.refl _ _)
      go_wp2_with (first | (refine wpList_build1 rfl _ _ rfl built_h0 ?_) | (refine wpList_store_row rfl 32 _ _ rfl w.heap.size zH.toArray rfl rfl 32 _ kR s0 rfl zH_all ?_))
      rw [HT.out.1, HT.out.2]
      refine bodyPost_ret (v := .tuple #[.int .i64 0, hA (List.replicate 32 0)]) ?_ rfl ⟨rfl, bF⟩
      exact results_tmpCell Tryz.results39 _ _ w.heap.size 32 (ob (List.replicate 32 0)).toArray _ rfl kF Tryz.underlying32 rfl s0 rfl
end Go.Proofs.YtnohmedccbogkaaGreatDoor

