import Derived.Test.YtnohmedccbogkaaGreatDoorCs7
import Derived.Deep.DeepCutAuto
namespace Go.Proofs.YtnohmedccbogkaaGreatDoor
open Go.RowKit
set_option linter.unusedVariables false
theorem read_calls (P : Pg) (N B0 g sb : Nat) (rt : Int) (vs : Value) (w0 : World) (PW : PgW P N) (HV : VwOk P vs g w0) (hB0 : w0.heap.size ≤ B0) : ∀ f, RdC P N B0 g sb rt vs w0 f
  | 0 => fun steps id ns nv na nc seen tall w hw st hf hl => by
    have := st.ok.le
    omega
  | f + 1 => fun steps id ns nv na nc seen tall w hw st hf hl => by
    cases h : pgOk P ⟨seen, tall⟩ id with
    | false => exact read_bad P N B0 g sb rt vs w0 PW HV hB0 f steps id ns nv na nc seen tall w hw st hl h
    | true =>
      obtain ⟨h1, h2, h3, h4⟩ := pgOk_iff.1 h
      rcases h4 with h4 | h4
      · exact read_leaf P N B0 g sb rt vs w0 PW HV hB0 f steps id ns nv na nc seen tall w hw st hl h1 h2 h3 h4
      · exact read_inner P N B0 g sb rt vs w0 PW HV hB0 f (read_calls P N B0 g sb rt vs w0 PW HV hB0 f) steps id ns nv na nc seen tall w hw st hl hf h1 h2 h3 h4
end Go.Proofs.YtnohmedccbogkaaGreatDoor

namespace Go.Proofs.YtnohmedccbogkaaGreatDoor
open Go.RowKit
set_option linter.unusedVariables false
def kOk (ks : List ByteArray) (low high : ByteArray) (m : Nat) : Bool := inB low high (ks.getD m (strOfNums [])) && (m == 0 || sl (ks.getD (m - 1) (strOfNums [])) (ks.getD m (strOfNums [])))
theorem kOk_all (low high : ByteArray) : ∀ es : List (ByteArray × ByteArray), (es.all (fun e => inB low high e.1) && ascE es) = (List.range es.length).all (kOk (es.map (fun x => x.1)) low high) := fun es => by
  rw [Bool.eq_iff_iff, Bool.and_eq_true, ascE_iff, List.all_eq_true, List.all_eq_true]
  have hg : ∀ m (h : m < es.length), (es.map (fun x => x.1)).getD m (strOfNums []) = (es[m]).1 := fun m h => by simp [List.getD, h]
  constructor
  · rintro ⟨h1, h2⟩ m hm
    have hm' := List.mem_range.1 hm
    unfold kOk
    rw [Bool.and_eq_true]
    refine ⟨by rw [hg m hm']; exact h1 _ (List.getElem_mem _), ?_⟩
    cases m with
    | zero => rfl
    | succ m =>
      rw [Nat.add_sub_cancel, hg m (by omega), hg (m + 1) hm']
      have := List.pairwise_iff_getElem.1 h2 m (m + 1) (by simp; omega) (by simp; omega) (by omega)
      simpa using this
  · intro h
    refine ⟨fun e he => ?_, ?_⟩
    · obtain ⟨m, hm, rfl⟩ := List.getElem_of_mem he
      have := h m (List.mem_range.2 hm)
      unfold kOk at this
      rw [Bool.and_eq_true, hg m hm] at this
      exact this.1
    · have step : ∀ m (h1 : m + 1 < es.length), sl (es[m]).1 (es[m + 1]).1 = true := fun m h1 => by
        have := h (m + 1) (List.mem_range.2 h1)
        unfold kOk at this
        rw [Bool.and_eq_true, Nat.add_sub_cancel, hg m (by omega), hg (m + 1) h1] at this
        simpa using this.2
      have mono : ∀ (d a : Nat) (h1 : a + d + 1 < es.length), sl (es[a]).1 (es[a + d + 1]).1 = true := by
        intro d
        induction d with
        | zero => intro a h1; exact step a h1
        | succ d ih => intro a h1; exact sl_trans (ih a (by omega)) (step (a + d + 1) (by omega))
      rw [List.pairwise_iff_getElem]
      intro a b ha hb hab
      simp only [List.length_map] at ha hb
      have := mono (b - a - 1) a (by omega)
      have e : a + (b - a - 1) + 1 = b := by omega
      simp only [e] at this
      simpa using this
theorem strE (h : ByteArray) : (h.toList == ([] : List UInt8)) = (h.size == 0) := by
  rw [ByteArray.toList_eq]
  obtain ⟨⟨x⟩⟩ := h
  cases x with
  | nil => rfl
  | cons a x => simp [ByteArray.size]
theorem below_drewNT {B : Nat} {w w' : World} (h : Below B w w') (n : Nat) : Below B w (w'.drewN n) := ⟨h.os, h.tape, h.output, h.size, h.block⟩
theorem nodes_cells {B0 g sb N : Nat} {rt : Int} {w : World} {ns : List NdK} {nv : Nat → NdV} {na : Option Addr} {nc : Nat} {seen : List Int} {tall : Int} {bad : Bool} (h : TSt B0 g sb N rt w ns nv na nc seen tall bad) {p : Nat} {K : NdK} (hp : ns[p]? = some K) :
    ∃ b, na = some ⟨b, 0, none⟩ ∧ (∀ j v, (ndc (nv p) K)[j]? = some v → w.cell? ⟨b, p * 6 + j, none⟩ = some v) ∧ ONd 0 w (nv p) K ∧ p < ns.length := by
  have hl := (List.getElem?_eq_some_iff.1 hp).1
  have hok : IsRow 6 (ndsF nv ns) ns.length := ⟨fun _ _ => rfl, fun i _ => ndc_one _ _⟩
  have R := h.nodes.reads hok
  have eK : ns.getD p nd0 = K := by rw [List.getD, hp]; rfl
  rcases h.nodes.2 with ⟨_, h0⟩ | ⟨b, cap, cur, e, _⟩
  · omega
  · simp only [Value.slice.injEq] at e
    have e1 := e.1
    rw [e1] at R
    refine ⟨b, e1, fun j v hv => by have := R.cells p hl j v (by unfold ndsF; rw [eK]; exact hv); rwa [Nat.zero_add] at this, ?_, hl⟩
    have := h.each p hl
    rw [eK] at this
    exact this
def OrC (B0 g sb N : Nat) (rt : Int) (ns : List NdK) (nv : Nat → NdV) (na : Option Addr) (nc : Nat) (seen : List Int) (tall : Int) (bad : Bool) (t : Tr) : Prop := ∀ (p : Int) (low high : ByteArray) (w : World), TSt B0 g sb N rt w ns nv na nc seen tall bad → Rep ns t true [p] [] →
    Calls Tryz.prog 181 #[.pointer (some ⟨g, 0, none⟩), .int .i64 p, .string low, .string high] w fun e w' => e = .returned (.bool (okT t true low high)) ∧ Below w.heap.size w w'
set_option maxHeartbeats 4000000 in
set_option maxRecDepth 100000 in
theorem ord_leaf {B0 g sb N : Nat} {rt : Int} {ns : List NdK} {nv : Nat → NdV} {na : Option Addr} {nc : Nat} {seen : List Int} {tall : Int} {bad : Bool} (id : Int) (es : List (ByteArray × ByteArray)) (hes : es.length ≤ 1048576) (hnl : ns.length ≤ 1048576) : OrC B0 g sb N rt ns nv na nc seen tall bad (.leaf id es) := by
  intro p low high w st hr
  rw [Rep] at hr
  obtain ⟨q, hq, hK⟩ := hr
  cases hq
  have hOK : Hid (okT (.leaf id es) true low high = (List.range es.length).all (kOk (es.map (fun x => x.1)) low high)) := by
    show okT _ _ _ _ = _
    rw [okT]; exact kOk_all low high es
  generalize okT (.leaf id es) true low high = res at *
  obtain ⟨b, rfl, hcell, hO, hql⟩ := nodes_cells st hK
  have cT0 : w.cell? ⟨g, 0, none⟩ = some (.slice (some ⟨b, 0, none⟩) ns.length nc) := st.blk.cell 0
  generalize hks : es.map (fun x => x.1) = ks at *
  have HKL : Hid (ks.length = es.length) := by show ks.length = es.length; rw [← hks, List.length_map]
  have hksl : ks.length ≤ 1048576 := by rw [HKL.out]; exact hes
  generalize es.map (fun x => x.2) = vs2 at *
  generalize hKK : (⟨id, true, ks, vs2, [], []⟩ : NdK) = K at *
  have eks : K.keys = ks := by rw [← hKK]
  have ekd : K.kids = [] := by rw [← hKK]
  have q0 : Below w.heap.size w (w.alloc (Obj.cells (ndc (nv q) K).toArray 257)) := (Below.refl _ _).alloc (Nat.le_refl _) _
  have kN := blk_new w 257 (ndc (nv q) K).toArray
  have O1 := hO.below q0
  have sN : (Tryz.prog.info? 257).map (·.size) = some (ndc (nv q) K).length := sizeNd
  go_enter Tryz.func181, Tryz.ntmps181
  go_upto_region 2 with (first | (refine wpList_load_at rfl 257 _ rfl b (q * 6) rfl (ndc (nv q) K) _ hcell Tryz.underlying257 rfl sN ?_) | (refine wpList_storeNew rfl 257 _ _ rfl w (ndc nilV nd0).toArray (ndc (nv q) K).toArray 257 rfl rfl sizeNd rfl (ndc_all _ _) ?_))
  change Code.wp _ _ _ _ (w.alloc (Obj.cells (ndc (nv q) K).toArray 257))
  generalize w.alloc (Obj.cells (ndc (nv q) K).toArray 257) = W at *
  have kN' : Blk W 257 w.heap.size (ndc (nv q) K) := kN
  have HW : Hid (∀ u, Below W.heap.size W u → u.cell? ⟨w.heap.size, 2, none⟩ = some (.slice (nv q).ka ks.length (nv q).kc) ∧ u.cell? ⟨w.heap.size, 4, none⟩ = some (.slice (nv q).da 0 (nv q).dc) ∧ Own1 9 0 u (nv q).ka ks.length (nv q).kc (os ks)) := fun u hu => by
    have k1 := kN'.below hu
    have o1 := (O1.below hu).keys
    have c2 : u.cell? ⟨w.heap.size, 2, none⟩ = some (.slice (nv q).ka K.keys.length (nv q).kc) := k1.cell 2
    have c4 : u.cell? ⟨w.heap.size, 4, none⟩ = some (.slice (nv q).da K.kids.length (nv q).dc) := k1.cell 4
    rw [eks] at o1 c2
    rw [ekd] at c4
    exact ⟨c2, c4, o1⟩
  have HB : Hid _ := q0
  clear kN kN' O1 hO q0 hcell cT0 st hK hKK eks ekd sN hks
  generalize (nv q).ka = ka at *
  generalize (nv q).kc = kc at *
  generalize (nv q).da = da at *
  generalize (nv q).dc = dc at *
  go_wp2_with fail
  go_loopw [10] (fun x wr => ∃ j : Nat, x = .int .i64 (j : Nat) ∧ j ≤ ks.length ∧ Below W.heap.size W wr ∧ ∀ m, m < j → kOk ks low high m = true) (fun x _ => ks.length - (intOf x).toNat)
  case atStart => exact ⟨0, rfl, Nat.zero_le _, Below.refl _ _, fun m hm => absurd hm (Nat.not_lt_zero _)⟩
  case round =>
    obtain ⟨j, rfl, hj, hbw, hall⟩ := hrel
    obtain ⟨wR, hwX⟩ : ∃ wX, wX = wr := ⟨_, rfl⟩
    subst hwX
    obtain ⟨c2, c4, o1⟩ := HW.out wR hbw
    have HBW : Hid _ := hbw
    have HALL : Hid _ := hall
    clear hbw hall
    by_cases hlt : j < ks.length
    · have hlt' : (j : Int) < (ks.length : Int) := by omega
      obtain ⟨kb, rfl, _, _, _, hkc⟩ := o1.at_ (by omega)
      have ck := (hkc j hlt).trans (congrArg some (os_get ks j hlt))
      have HKC : Hid _ := hkc
      clear hkc o1 c4
      have hno : Hid (kOk ks low high j = false → res = false) := fun h => by
        rw [hOK.out]
        rw [List.all_eq_false]
        exact ⟨j, List.mem_range.2 (by have := HKL.out; omega), by rw [h]; decide⟩
      have hkd : Hid (kOk ks low high j = (inB low high (ks.getD j (strOfNums [])) && (j == 0 || sl (ks.getD (j - 1) (strOfNums [])) (ks.getD j (strOfNums []))))) := rfl
      generalize hk1 : ks.getD j (strOfNums []) = k1 at *
      cases hA : sl k1 low with
      | true =>
        have hA' : Op.bytesLess k1.toList low.toList = true := hA
        have hres := hno.out (by rw [hkd.out]; simp [inB, sle, hA])
        clear hA
        go_upto_region 5 with fail
        go_quiet (fail)
        go_wp2_with fail
        go_ret
        exact ⟨by rw [hres]; rfl, HB.out.trans ((below_drewNT HBW.out _).mono HB.out.size)⟩
      | false =>
        have hA' : Op.bytesLess k1.toList low.toList = false := hA
        have hsle : sle low k1 = true := by unfold sle; rw [hA]; rfl
        clear hA
        cases hE : (high.size == 0) with
        | true =>
          have hE' : (high.toList == ([] : List UInt8)) = true := by rw [strE]; exact hE
          have hin : inB low high k1 = true := by simp [inB, hsle, hE]
          clear hE hsle
          by_cases hj0 : j = 0
          · subst hj0
            have hyes : kOk ks low high 0 = true := by rw [hkd.out]; simp [hin]
            have HY : Hid _ := hyes
            clear hno hkd hyes hin
            go_upto_region 5 with fail
            go_quiet (fail)
            go_wp2_with fail
            go_roundw
            case rel => exact ⟨1, rfl, by omega, below_drewNT HBW.out _, fun m hm => (show m = 0 by omega) ▸ HY.out⟩
            case measure => simp [intOf]; omega
          · obtain ⟨J, rfl⟩ : ∃ J, j = J + 1 := ⟨j - 1, by omega⟩
            have ck0 := (HKC.out J (by omega)).trans (congrArg some (os_get ks J (by omega)))
            have hJ1 : J < ks.length := by omega
            rw [Nat.add_sub_cancel] at hkd
            generalize hk0 : ks.getD J (strOfNums []) = k0 at *
            cases hC : sl k0 k1 with
            | false =>
              have hC' : Op.bytesLess k0.toList k1.toList = false := hC
              have hres := hno.out (by rw [hkd.out, hC]; simp)
              clear hC hno hkd hin
              go_upto_region 5 with fail
              go_quiet (fail)
              go_wp2_with fail
              go_ret
              exact ⟨by rw [hres]; rfl, HB.out.trans ((below_drewNT HBW.out _).mono HB.out.size)⟩
            | true =>
              have hC' : Op.bytesLess k0.toList k1.toList = true := hC
              have hyes : kOk ks low high (J + 1) = true := by rw [hkd.out, hC, hin]; simp
              have HY : Hid _ := hyes
              clear hC hno hkd hin hyes
              go_upto_region 5 with fail
              go_quiet (fail)
              go_wp2_with fail
              go_roundw
              case rel => exact ⟨J + 1 + 1, by go_num, by omega, below_drewNT HBW.out _, fun m hm => by
                by_cases e : m = J + 1
                · subst e; exact HY.out
                · exact HALL.out m (by omega)⟩
              case measure => simp [intOf]; omega
        | false =>
          have hE' : (high.toList == ([] : List UInt8)) = false := by rw [strE]; exact hE
          cases hD : sl k1 high with
          | false =>
            have hD' : Op.bytesLess k1.toList high.toList = false := hD
            have hres := hno.out (by rw [hkd.out]; simp [inB, hD, hE])
            clear hD hE hno hkd hsle
            go_upto_region 5 with fail
            go_quiet (fail)
            go_wp2_with fail
            go_ret
            exact ⟨by rw [hres]; rfl, HB.out.trans ((below_drewNT HBW.out _).mono HB.out.size)⟩
          | true =>
            have hD' : Op.bytesLess k1.toList high.toList = true := hD
            have hin : inB low high k1 = true := by simp [inB, hsle, hD]
            clear hE hD hsle
            by_cases hj0 : j = 0
            · subst hj0
              have hyes : kOk ks low high 0 = true := by rw [hkd.out]; simp [hin]
              have HY : Hid _ := hyes
              clear hno hkd hyes hin
              go_upto_region 5 with fail
              go_quiet (fail)
              go_wp2_with fail
              go_roundw
              case rel => exact ⟨1, rfl, by omega, below_drewNT HBW.out _, fun m hm => (show m = 0 by omega) ▸ HY.out⟩
              case measure => simp [intOf]; omega
            · obtain ⟨J, rfl⟩ : ∃ J, j = J + 1 := ⟨j - 1, by omega⟩
              have ck0 := (HKC.out J (by omega)).trans (congrArg some (os_get ks J (by omega)))
              have hJ1 : J < ks.length := by omega
              rw [Nat.add_sub_cancel] at hkd
              generalize hk0 : ks.getD J (strOfNums []) = k0 at *
              cases hC : sl k0 k1 with
              | false =>
                have hC' : Op.bytesLess k0.toList k1.toList = false := hC
                have hres := hno.out (by rw [hkd.out, hC]; simp)
                clear hC hno hkd hin
                go_upto_region 5 with fail
                go_quiet (fail)
                go_wp2_with fail
                go_ret
                exact ⟨by rw [hres]; rfl, HB.out.trans ((below_drewNT HBW.out _).mono HB.out.size)⟩
              | true =>
                have hC' : Op.bytesLess k0.toList k1.toList = true := hC
                have hyes : kOk ks low high (J + 1) = true := by rw [hkd.out, hC, hin]; simp
                have HY : Hid _ := hyes
                clear hC hno hkd hin hyes
                go_upto_region 5 with fail
                go_quiet (fail)
                go_wp2_with fail
                go_roundw
                case rel => exact ⟨J + 1 + 1, by go_num, by omega, below_drewNT HBW.out _, fun m hm => by
                  by_cases e : m = J + 1
                  · subst e; exact HY.out
                  · exact HALL.out m (by omega)⟩
                case measure => simp [intOf]; omega
    · have hje : j = ks.length := by omega
      have hlt' : ¬ (j : Int) < (ks.length : Int) := by omega
      have hres : res = true := by
        rw [hOK.out, List.all_eq_true]
        intro m hm
        exact HALL.out m (by have := List.mem_range.1 hm; have := HKL.out; omega)
      clear o1 hje
      go_wp2_with fail
      go_loopw [11] (fun x wr => x = .int .i64 0 ∧ wr = wR) (fun _ _ => 0)
      case atStart => exact ⟨rfl, rfl⟩
      case round =>
        obtain ⟨rfl, hwr⟩ := hrel
        obtain rfl := hwr.symm
        clear hwr
        go_wp2_with fail
        go_ret
        exact ⟨by rw [hres]; rfl, HB.out.trans (HBW.out.mono HB.out.size)⟩
end Go.Proofs.YtnohmedccbogkaaGreatDoor

namespace Go.Proofs.YtnohmedccbogkaaGreatDoor
open Go.RowKit
set_option linter.unusedVariables false
def klist : Tr → List (ByteArray × Tr)
  | .cons s t ks => (s, t) :: klist ks
  | _ => []
def frB (b : Bool) (low : ByteArray) (L : List (ByteArray × Tr)) (m : Nat) : ByteArray := if b = true ∧ m = 0 then low else maxB low (L.getD m t0).1
def toB (high : ByteArray) (L : List (ByteArray × Tr)) (m : Nat) : ByteArray := if m + 1 < L.length then minB high (L.getD (m + 1) t0).1 else high
theorem all_range_succ (f : Nat → Bool) (n : Nat) : (List.range (n + 1)).all f = (f 0 && (List.range n).all (fun m => f (m + 1))) := by
  rw [List.range_succ_eq_map, List.all_cons, List.all_map]
  rfl
theorem okT_list : ∀ (ks : Tr) (b : Bool) (low high : ByteArray), isT ks = false → full ks b → okT ks b low high = (List.range (klist ks).length).all (fun m => okT ((klist ks).getD m t0).2 true (frB b low (klist ks) m) (toB high (klist ks) m))
  | .leaf _ _, _, _, _, h, _ => by simp [isT] at h
  | .node _ _, _, _, _, h, _ => by simp [isT] at h
  | .nil, b, low, high, _, _ => by simp [okT, klist]
  | .cons s t ks, b, low, high, _, hf => by
    rw [full] at hf
    have ih := okT_list ks false low high hf.2.2.1 hf.2.2.2.2
    rw [okT, klist, List.length_cons, all_range_succ, ih]
    congr 1
    · have e1 : frB b low ((s, t) :: klist ks) 0 = if b = true then low else maxB low s := by
        unfold frB
        cases b <;> simp
      have e2 : toB high ((s, t) :: klist ks) 0 = minO high (hdS ks) := by
        unfold toB
        cases ks with
        | cons s2 t2 r => simp [klist, hdS, minO]
        | nil => simp [klist, hdS, minO]
        | leaf _ _ => have := hf.2.2.1; simp [isT] at this
        | node _ _ => have := hf.2.2.1; simp [isT] at this
      rw [e1, e2]
      simp
    · congr 1
      funext m
      have e1 : frB b low ((s, t) :: klist ks) (m + 1) = frB false low (klist ks) m := by unfold frB; simp
      have e2 : toB high ((s, t) :: klist ks) (m + 1) = toB high (klist ks) m := by unfold toB; simp
      rw [e1, e2]
      simp
theorem rep_list {ns : List NdK} : ∀ (ks : Tr) (b : Bool) (ds : List Int) (ss : List ByteArray), isT ks = false → full ks b → Rep ns ks b ds ss → ds.length = (klist ks).length ∧ ss = (if b = true then (klist ks).tail else klist ks).map (fun x => x.1) ∧ ∀ m, m < (klist ks).length → Rep ns ((klist ks).getD m t0).2 true [ds.getD m 0] []
  | .leaf _ _, _, _, _, h, _, _ => by simp [isT] at h
  | .node _ _, _, _, _, h, _, _ => by simp [isT] at h
  | .nil, b, ds, ss, _, _, hr => by
    rw [Rep] at hr
    obtain ⟨rfl, rfl⟩ := hr
    cases b <;> simp [klist]
  | .cons s t ks, b, ds, ss, _, hf, hr => by
    rw [full] at hf
    rw [Rep] at hr
    obtain ⟨d, ds', ss', rfl, rfl, h3, h4⟩ := hr
    obtain ⟨i1, i2, i3⟩ := rep_list ks false ds' ss' hf.2.2.1 hf.2.2.2.2 h4
    refine ⟨by simp [klist, i1], ?_, fun m hm => ?_⟩
    · rw [i2]
      cases b <;> simp [klist]
    · cases m with
      | zero => simpa [klist] using h3
      | succ m =>
        have := i3 m (by simpa [klist] using hm)
        simpa [klist] using this
set_option maxHeartbeats 4000000 in
set_option maxRecDepth 100000 in
theorem ord_node {B0 g sb N : Nat} {rt : Int} {ns : List NdK} {nv : Nat → NdV} {na : Option Addr} {nc : Nat} {seen : List Int} {tall : Int} {bad : Bool} (id : Int) (ks : Tr) (hf : full (.node id ks) true) (hnl : ns.length ≤ 1048576) (hkl : (klist ks).length ≤ 1048576) (IH : ∀ m, m < (klist ks).length → OrC B0 g sb N rt ns nv na nc seen tall bad ((klist ks).getD m t0).2) : OrC B0 g sb N rt ns nv na nc seen tall bad (.node id ks) := by
  intro p low high w st hr
  rw [Rep] at hr
  obtain ⟨q, kd, sg, hq, hK, hR⟩ := hr
  cases hq
  rw [full] at hf
  have hT : isT ks = false := by obtain ⟨s, t, r, rfl⟩ := hf.1; rfl
  have hOK : Hid (okT (.node id ks) true low high = (List.range (klist ks).length).all (fun m => okT ((klist ks).getD m t0).2 true (frB true low (klist ks) m) (toB high (klist ks) m))) := by
    show okT _ _ _ _ = _
    rw [okT]; exact okT_list ks true low high hT hf.2
  obtain ⟨hdl, hsg, hrep⟩ := rep_list ks true kd sg hT hf.2 hR
  generalize okT (.node id ks) true low high = res at *
  generalize hLL : klist ks = L at *
  clear hLL hf hT hR
  rw [if_pos rfl] at hsg
  obtain ⟨b, rfl, hcell, hO, hql⟩ := nodes_cells st hK
  have cT0 : w.cell? ⟨g, 0, none⟩ = some (.slice (some ⟨b, 0, none⟩) ns.length nc) := st.blk.cell 0
  generalize hKK : (⟨id, false, [], [], kd, sg⟩ : NdK) = K at *
  have eks : K.keys = [] := by rw [← hKK]
  have ekd : K.kids = kd := by rw [← hKK]
  have esg : K.signs = sg := by rw [← hKK]
  have q0 : Below w.heap.size w (w.alloc (Obj.cells (ndc (nv q) K).toArray 257)) := (Below.refl _ _).alloc (Nat.le_refl _) _
  have kN := blk_new w 257 (ndc (nv q) K).toArray
  have O1 := hO.below q0
  have sN : (Tryz.prog.info? 257).map (·.size) = some (ndc (nv q) K).length := sizeNd
  go_enter Tryz.func181, Tryz.ntmps181
  go_upto_region 2 with (first | (refine wpList_load_at rfl 257 _ rfl b (q * 6) rfl (ndc (nv q) K) _ hcell Tryz.underlying257 rfl sN ?_) | (refine wpList_storeNew rfl 257 _ _ rfl w (ndc nilV nd0).toArray (ndc (nv q) K).toArray 257 rfl rfl sizeNd rfl (ndc_all _ _) ?_))
  change Code.wp _ _ _ _ (w.alloc (Obj.cells (ndc (nv q) K).toArray 257))
  generalize w.alloc (Obj.cells (ndc (nv q) K).toArray 257) = W at *
  have kN' : Blk W 257 w.heap.size (ndc (nv q) K) := kN
  have HW : Hid (∀ u, Below W.heap.size W u → u.cell? ⟨w.heap.size, 2, none⟩ = some (.slice (nv q).ka 0 (nv q).kc) ∧ u.cell? ⟨w.heap.size, 4, none⟩ = some (.slice (nv q).da kd.length (nv q).dc) ∧ u.cell? ⟨w.heap.size, 5, none⟩ = some (.slice (nv q).sa sg.length (nv q).sc) ∧ Own1 3 0 u (nv q).da kd.length (nv q).dc (on kd) ∧ Own1 9 0 u (nv q).sa sg.length (nv q).sc (os sg) ∧ TSt B0 g sb N rt u ns nv (some ⟨b, 0, none⟩) nc seen tall bad) := fun u hu => by
    have k1 := kN'.below hu
    have o1 := (O1.below hu).kids
    have o2 := (O1.below hu).signs
    have c2 : u.cell? ⟨w.heap.size, 2, none⟩ = some (.slice (nv q).ka K.keys.length (nv q).kc) := k1.cell 2
    have c4 : u.cell? ⟨w.heap.size, 4, none⟩ = some (.slice (nv q).da K.kids.length (nv q).dc) := k1.cell 4
    have c5 : u.cell? ⟨w.heap.size, 5, none⟩ = some (.slice (nv q).sa K.signs.length (nv q).sc) := k1.cell 5
    rw [eks] at c2
    rw [ekd] at c4 o1
    rw [esg] at c5 o2
    exact ⟨c2, c4, c5, o1, o2, (st.belowT q0).belowT hu⟩
  have HB : Hid _ := q0
  have HIH : Hid _ := IH
  have HREP : Hid _ := hrep
  have HDL : Hid _ := hdl
  have HSG : Hid _ := hsg
  have hkdl : kd.length ≤ 1048576 := by rw [hdl]; exact hkl
  have hsgl : Hid (sg.length = L.length - 1) := by show sg.length = _; rw [hsg]; simp
  have hsgb : sg.length ≤ 1048576 := by rw [hsgl.out]; omega
  clear kN kN' O1 hO q0 hcell cT0 st hK hKK eks ekd esg sN IH hrep hdl hsg
  generalize (nv q).ka = ka at *
  generalize (nv q).kc = kc at *
  generalize (nv q).da = da at *
  generalize (nv q).dc = dc at *
  generalize (nv q).sa = sa at *
  generalize (nv q).sc = sc at *
  obtain ⟨c2, _, _, _, _, _⟩ := HW.out W (Below.refl _ _)
  go_wp2_with fail
  go_loopw [10] (fun x wr => x = .int .i64 0 ∧ wr = W) (fun _ _ => 0)
  case atStart => exact ⟨rfl, rfl⟩
  case round =>
    obtain ⟨rfl, hwr⟩ := hrel
    obtain rfl := hwr.symm
    clear hwr
    go_wp2_with fail
    clear c2
    go_loopw [11, 12, 13] (fun x _ _ wr => ∃ j : Nat, x = .int .i64 (j : Nat) ∧ j ≤ kd.length ∧ Below W.heap.size W wr ∧ ∀ m, m < j → okT (L.getD m t0).2 true (frB true low L m) (toB high L m) = true) (fun x _ _ _ => kd.length - (intOf x).toNat)
    case atStart => exact ⟨0, rfl, Nat.zero_le _, Below.refl _ _, fun m hm => absurd hm (Nat.not_lt_zero _)⟩
    case round =>
      obtain ⟨j, rfl, hj, hbw, hall⟩ := hrel
      obtain ⟨wR, hwX⟩ : ∃ wX, wX = wr := ⟨_, rfl⟩
      subst hwX
      obtain ⟨_, c4, c5, o1, o2, st1⟩ := HW.out wR hbw
      have HBW : Hid _ := hbw
      have HALL : Hid _ := hall
      clear hbw hall
      by_cases hlt : j < kd.length
      · have hlt' : (j : Int) < (kd.length : Int) := by omega
        obtain ⟨kb, rfl, _, _, _, hkc⟩ := o1.at_ (by omega)
        have ck := (hkc j hlt).trans (congrArg some (on_get kd j hlt))
        clear hkc o1
        have hsge : ∀ m, m < sg.length → sg.getD m (strOfNums []) = (L.getD (m + 1) t0).1 := fun m hm => by
          rw [HSG.out]
          have := hsgl.out
          simp [List.getD, List.getElem?_tail, List.getElem?_eq_getElem (show m + 1 < L.length by omega)]
        have HSE : Hid _ := hsge
        clear hsge
        have cs : ∀ m, m < sg.length → ∃ sb2, sa = some ⟨sb2, 0, none⟩ ∧ wR.cell? ⟨sb2, m, none⟩ = some (.string (L.getD (m + 1) t0).1) := fun m hm => by
          obtain ⟨s2, e, _, _, _, hc⟩ := o2.at_ (by omega)
          exact ⟨s2, e, by rw [hc m hm, os_get sg m hm, HSE.out m hm]⟩
        have HCS : Hid _ := cs
        clear cs o2
        have hLj : j < L.length := by have := HDL.out; omega
        go_upto_if 76 with fail
        go_cut [12, 76] (fun s12 _ wx => s12 = .string (frB true low L j) ∧ wx = wR)
        case first =>
          by_cases hj0 : j = 0
          · subst hj0
            have hF : Hid (frB true low L 0 = low) := by show frB true low L 0 = low; unfold frB; simp
            go_wp2_with fail
            go_meet
            exact ⟨by rw [hF.out], rfl⟩
          · obtain ⟨J, rfl⟩ : ∃ J, j = J + 1 := ⟨j - 1, by omega⟩
            obtain ⟨s2, rfl, cS⟩ := HCS.out J (by have := hsgl.out; omega)
            have hJs : J < sg.length := by have := hsgl.out; omega
            have hF : Hid (frB true low L (J + 1) = if sl (L.getD (J + 1) t0).1 low then low else (L.getD (J + 1) t0).1) := by show frB _ _ _ _ = _; unfold frB maxB; simp
            generalize (L.getD (J + 1) t0).1 = S at *
            cases hA : sl S low with
            | true =>
              have hA' : Op.bytesLess S.toList low.toList = true := hA
              rw [hA] at hF
              clear hA
              go_wp2_with fail
              go_meet
              exact ⟨by rw [hF.out]; rfl, rfl⟩
            | false =>
              have hA' : Op.bytesLess S.toList low.toList = false := hA
              rw [hA] at hF
              clear hA
              go_wp2_with fail
              go_meet
              exact ⟨by rw [hF.out]; rfl, rfl⟩
        case rest =>
        obtain ⟨rfl, hwc⟩ := hcut
        obtain rfl := hwc.symm
        clear hwc
        generalize hFR : frB true low L j = FR at *
        have hTB : Hid (toB high L j = if j + 1 < L.length then (if high.size == 0 || sl (L.getD (j + 1) t0).1 high then (L.getD (j + 1) t0).1 else high) else high) := rfl
        by_cases hm : j < sg.length
        · have hm' : (j : Int) < (sg.length : Int) := by omega
          have hm2 : j + 1 < L.length := by have := hsgl.out; omega
          obtain ⟨s2, rfl, cS⟩ := HCS.out j hm
          generalize hS : (L.getD (j + 1) t0).1 = S at *
          cases hE : (high.size == 0) with
          | true =>
            have hE' : (high.toList == ([] : List UInt8)) = true := by rw [strE]; exact hE
            have hTO : Hid (toB high L j = S) := by show toB high L j = S; rw [hTB.out, if_pos hm2, hE]; rfl
            clear hE hTB hS
            have RC := HIH.out j hLj (kd.getD j 0) FR S wR st1 (HREP.out j hLj)
            have hE2 : Hid (okT (L.getD j t0).2 true FR S = okT (L.getD j t0).2 true (frB true low L j) (toB high L j)) := by show _ = _; rw [hFR, hTO.out]
            generalize hrr : okT (L.getD j t0).2 true FR S = r at *
            generalize kd.getD j 0 = kp at *
            clear st1
            go_wp2_with fail
            refine RC.mono ?_
            rintro e w5 ⟨rfl, b5⟩
            have hB5 : Below W.heap.size W w5 := HBW.out.trans (b5.mono HBW.out.size)
            have HB5 : Hid _ := hB5
            clear RC b5 hB5 c4 c5 ck
            cases r with
            | false =>
              have hres : res = false := by
                rw [hOK.out, List.all_eq_false]
                exact ⟨j, List.mem_range.2 hLj, by rw [← hE2.out]; decide⟩
              go_wp2_with fail
              go_ret
              exact ⟨by rw [hres]; rfl, HB.out.trans (HB5.out.mono HB.out.size)⟩
            | true =>
              go_wp2_with fail
              go_roundw
              case rel => exact ⟨j + 1, by go_num, by omega, HB5.out, fun m hm => by
                by_cases e : m = j
                · subst e; exact hE2.out.symm
                · exact HALL.out m (by omega)⟩
              case measure => simp [intOf]; omega
          | false =>
            have hE' : (high.toList == ([] : List UInt8)) = false := by rw [strE]; exact hE
            cases hD : sl S high with
            | true =>
              have hD' : Op.bytesLess S.toList high.toList = true := hD
              have hTO : Hid (toB high L j = S) := by show toB high L j = S; rw [hTB.out, if_pos hm2, hD]; simp
              clear hE hTB hD hS
              have RC := HIH.out j hLj (kd.getD j 0) FR S wR st1 (HREP.out j hLj)
              have hE2 : Hid (okT (L.getD j t0).2 true FR S = okT (L.getD j t0).2 true (frB true low L j) (toB high L j)) := by show _ = _; rw [hFR, hTO.out]
              generalize hrr : okT (L.getD j t0).2 true FR S = r at *
              generalize kd.getD j 0 = kp at *
              clear st1
              go_wp2_with fail
              refine RC.mono ?_
              rintro e w5 ⟨rfl, b5⟩
              have hB5 : Below W.heap.size W w5 := HBW.out.trans (b5.mono HBW.out.size)
              have HB5 : Hid _ := hB5
              clear RC b5 hB5 c4 c5 ck
              cases r with
              | false =>
                have hres : res = false := by
                  rw [hOK.out, List.all_eq_false]
                  exact ⟨j, List.mem_range.2 hLj, by rw [← hE2.out]; decide⟩
                go_wp2_with fail
                go_ret
                exact ⟨by rw [hres]; rfl, HB.out.trans (HB5.out.mono HB.out.size)⟩
              | true =>
                go_wp2_with fail
                go_roundw
                case rel => exact ⟨j + 1, by go_num, by omega, HB5.out, fun m hm => by
                  by_cases e : m = j
                  · subst e; exact hE2.out.symm
                  · exact HALL.out m (by omega)⟩
                case measure => simp [intOf]; omega
            | false =>
              have hD' : Op.bytesLess S.toList high.toList = false := hD
              have hTO : Hid (toB high L j = high) := by show toB high L j = high; rw [hTB.out, if_pos hm2, hD, hE]; rfl
              clear hE hTB hD hS
              have RC := HIH.out j hLj (kd.getD j 0) FR high wR st1 (HREP.out j hLj)
              have hE2 : Hid (okT (L.getD j t0).2 true FR high = okT (L.getD j t0).2 true (frB true low L j) (toB high L j)) := by show _ = _; rw [hFR, hTO.out]
              generalize hrr : okT (L.getD j t0).2 true FR high = r at *
              generalize kd.getD j 0 = kp at *
              clear st1
              go_wp2_with fail
              refine RC.mono ?_
              rintro e w5 ⟨rfl, b5⟩
              have hB5 : Below W.heap.size W w5 := HBW.out.trans (b5.mono HBW.out.size)
              have HB5 : Hid _ := hB5
              clear RC b5 hB5 c4 c5 ck
              cases r with
              | false =>
                have hres : res = false := by
                  rw [hOK.out, List.all_eq_false]
                  exact ⟨j, List.mem_range.2 hLj, by rw [← hE2.out]; decide⟩
                go_wp2_with fail
                go_ret
                exact ⟨by rw [hres]; rfl, HB.out.trans (HB5.out.mono HB.out.size)⟩
              | true =>
                go_wp2_with fail
                go_roundw
                case rel => exact ⟨j + 1, by go_num, by omega, HB5.out, fun m hm => by
                  by_cases e : m = j
                  · subst e; exact hE2.out.symm
                  · exact HALL.out m (by omega)⟩
                case measure => simp [intOf]; omega
        · have hm' : ¬ (j : Int) < (sg.length : Int) := by omega
          have hTO : Hid (toB high L j = high) := by show toB high L j = high; rw [hTB.out, if_neg (by have := hsgl.out; omega)]
          clear hTB
          have RC := HIH.out j hLj (kd.getD j 0) FR high wR st1 (HREP.out j hLj)
          have hE2 : Hid (okT (L.getD j t0).2 true FR high = okT (L.getD j t0).2 true (frB true low L j) (toB high L j)) := by show _ = _; rw [hFR, hTO.out]
          generalize hrr : okT (L.getD j t0).2 true FR high = r at *
          generalize kd.getD j 0 = kp at *
          clear st1
          go_wp2_with fail
          refine RC.mono ?_
          rintro e w5 ⟨rfl, b5⟩
          have hB5 : Below W.heap.size W w5 := HBW.out.trans (b5.mono HBW.out.size)
          have HB5 : Hid _ := hB5
          clear RC b5 hB5 c4 c5 ck
          cases r with
          | false =>
            have hres : res = false := by
              rw [hOK.out, List.all_eq_false]
              exact ⟨j, List.mem_range.2 hLj, by rw [← hE2.out]; decide⟩
            go_wp2_with fail
            go_ret
            exact ⟨by rw [hres]; rfl, HB.out.trans (HB5.out.mono HB.out.size)⟩
          | true =>
            go_wp2_with fail
            go_roundw
            case rel => exact ⟨j + 1, by go_num, by omega, HB5.out, fun m hm => by
              by_cases e : m = j
              · subst e; exact hE2.out.symm
              · exact HALL.out m (by omega)⟩
            case measure => simp [intOf]; omega
      · have hje : j = kd.length := by omega
        have hlt' : ¬ (j : Int) < (kd.length : Int) := by omega
        have hres : res = true := by
          rw [hOK.out, List.all_eq_true]
          intro m hm
          exact HALL.out m (by have := List.mem_range.1 hm; have := HDL.out; omega)
        clear o1 o2 st1 hje
        go_wp2_with fail
        go_ret
        exact ⟨by first | rfl | (rw [hres]; rfl), HB.out.trans (HBW.out.mono HB.out.size)⟩
def smT : Tr → Prop
  | .leaf _ es => es.length ≤ 1048576
  | .node _ ks => (klist ks).length ≤ 1048576 ∧ smT ks
  | .nil => True
  | .cons _ t ks => smT t ∧ smT ks
theorem ord_all {B0 g sb N : Nat} {rt : Int} {ns : List NdK} {nv : Nat → NdV} {na : Option Addr} {nc : Nat} {seen : List Int} {tall : Int} {bad : Bool} (hnl : ns.length ≤ 1048576) : ∀ t : Tr,
    (isT t = true → full t true → smT t → OrC B0 g sb N rt ns nv na nc seen tall bad t) ∧ (isT t = false → ∀ b, full t b → smT t → ∀ m, m < (klist t).length → OrC B0 g sb N rt ns nv na nc seen tall bad ((klist t).getD m t0).2)
  | .leaf id es => ⟨fun _ _ hs => ord_leaf id es hs hnl, fun h => by simp [isT] at h⟩
  | .node id ks => ⟨fun _ hf hs => by
      have hf2 := hf
      rw [full] at hf2
      rw [smT] at hs
      have hT : isT ks = false := by obtain ⟨s, t, r, rfl⟩ := hf2.1; rfl
      exact ord_node id ks hf hnl hs.1 ((ord_all hnl ks).2 hT true hf2.2 hs.2), fun h => by simp [isT] at h⟩
  | .nil => ⟨fun h => by simp [isT] at h, fun _ _ _ _ m hm => by simp [klist] at hm⟩
  | .cons s t ks => ⟨fun h => by simp [isT] at h, fun _ b hf hs m hm => by
      rw [full] at hf
      rw [smT] at hs
      cases m with
      | zero => exact (ord_all hnl t).1 hf.2.1 hf.2.2.2.1 hs.1
      | succ m => exact (ord_all hnl ks).2 hf.2.2.1 false hf.2.2.2.2 hs.2 m (by simpa [klist] using hm)⟩
end Go.Proofs.YtnohmedccbogkaaGreatDoor

namespace Go.Proofs.YtnohmedccbogkaaGreatDoor
open Go.RowKit
set_option linter.unusedVariables false
def pgsT : Tr → List Int
  | .leaf id _ => [id]
  | .node id ks => id :: pgsT ks
  | .nil => []
  | .cons _ t ks => pgsT t ++ pgsT ks
def pgsL (L : List (ByteArray × Tr)) : List Int := L.flatMap (fun x => pgsT x.2)
theorem pgs_klist : ∀ ks : Tr, isT ks = false → ∀ b, full ks b → pgsT ks = pgsL (klist ks)
  | .leaf _ _, h, _, _ => by simp [isT] at h
  | .node _ _, h, _, _ => by simp [isT] at h
  | .nil, _, _, _ => by simp [pgsT, pgsL, klist]
  | .cons s t ks, _, b, hf => by
    rw [full] at hf
    rw [pgsT, klist, pgs_klist ks hf.2.2.1 false hf.2.2.2.2]
    simp [pgsL]
theorem mkB_congr {a b : List Int} (N : Nat) (h : ∀ x, x ∈ a ↔ x ∈ b) : mkB a N = mkB b N := by
  unfold mkB
  apply List.map_congr_left
  intro i _
  have : a.contains (i : Int) = b.contains (i : Int) := by rw [Bool.eq_iff_iff, List.contains_iff_mem, List.contains_iff_mem]; exact h _
  rw [this]
theorem TSt.onlyM {B0 g sb N mb : Nat} {rt : Int} {w w' : World} {ns : List NdK} {nv : Nat → NdV} {na : Option Addr} {nc : Nat} {seen : List Int} {tall : Int} {bad : Bool} (h : TSt B0 g sb N rt w ns nv na nc seen tall bad) (ho : OnlyB mb w w') (hb : ∃ cur, w.heap[mb]? = some (.cells cur 4 (0, 0))) (hne : mb ≠ sb) : TSt B0 g sb N rt w' ns nv na nc seen tall bad := by
  obtain ⟨cur, hc⟩ := hb
  have hk : ∀ t, 4 ≠ t → KeepT t w w' := fun t ht => keepT_onlyC ho hc ht
  refine ⟨h.blk.keepT (hk _ (by decide)), ?_, ownsRow_keepT h.nodes (hk _ (by decide)), fun i hi => (h.each i hi).keep (hk _ (by decide)) (hk _ (by decide)), Nat.le_trans h.gB ho.size, h.ok⟩
  refine ⟨h.mks.1, ?_⟩
  rcases h.mks.2 with h2 | ⟨k, cap, cur2, hv, hg, hh, r⟩
  · exact Or.inl h2
  · refine Or.inr ⟨k, cap, cur2, hv, hg, ?_, r⟩
    simp only [Value.slice.injEq, Option.some.injEq, Addr.mk.injEq, and_true, true_and] at hv
    rw [ho.block k (Array.getElem?_eq_some_iff.1 hh).1 (by omega)]
    exact hh
def PgC (B0 g sb N : Nat) (rt : Int) (ns : List NdK) (nv : Nat → NdV) (na : Option Addr) (nc : Nat) (seen : List Int) (tall : Int) (bad : Bool) (mb : Nat) (t : Tr) : Prop := ∀ (p : Int) (sn : List Int) (w : World), TSt B0 g sb N rt w ns nv na nc seen tall bad → Own1 4 0 w (some ⟨mb, 0, none⟩) N N (mkB sn N) → Rep ns t true [p] [] → (∀ id ∈ pgsT t, 0 < id ∧ id < (N : Int)) →
    Calls Tryz.prog 177 #[.pointer (some ⟨g, 0, none⟩), .int .i64 p, .slice (some ⟨mb, 0, none⟩) N N] w fun e w' => e = .returned (.tuple #[]) ∧ OnlyB mb w w' ∧ Own1 4 0 w' (some ⟨mb, 0, none⟩) N N (mkB (pgsT t ++ sn) N)
set_option maxHeartbeats 4000000 in
set_option maxRecDepth 100000 in
theorem pg_step {B0 g sb N : Nat} {rt : Int} {ns : List NdK} {nv : Nat → NdV} {na : Option Addr} {nc : Nat} {seen : List Int} {tall : Int} {bad : Bool} {mb : Nat} (hmb : mb ≠ sb) (hnl : ns.length ≤ 1048576) (hN : N ≤ 1024) (q : Nat) (K : NdK) (hK : ns[q]? = some K) (L : List (ByteArray × Tr)) (hLl : L.length ≤ 1048576) (hkl : K.kids.length = L.length) (i : Nat) (hi : K.page = (i : Int)) (hi0 : 0 < i) (hiN : i < N)
    (hrep : ∀ m, m < L.length → Rep ns (L.getD m t0).2 true [K.kids.getD m 0] []) (IH : ∀ m, m < L.length → PgC B0 g sb N rt ns nv na nc seen tall bad mb (L.getD m t0).2) (hin : ∀ m, m < L.length → ∀ id ∈ pgsT (L.getD m t0).2, 0 < id ∧ id < (N : Int)) (sn : List Int) (w : World) (st : TSt B0 g sb N rt w ns nv na nc seen tall bad) (hm : Own1 4 0 w (some ⟨mb, 0, none⟩) N N (mkB sn N)) :
    Calls Tryz.prog 177 #[.pointer (some ⟨g, 0, none⟩), .int .i64 (q : Nat), .slice (some ⟨mb, 0, none⟩) N N] w fun e w' => e = .returned (.tuple #[]) ∧ OnlyB mb w w' ∧ Own1 4 0 w' (some ⟨mb, 0, none⟩) N N (mkB (pgsL L ++ ((i : Int) :: sn)) N) := by
  obtain ⟨b, rfl, hcell, hO, hql⟩ := nodes_cells st hK
  have cT0 : w.cell? ⟨g, 0, none⟩ = some (.slice (some ⟨b, 0, none⟩) ns.length nc) := st.blk.cell 0
  have q0 : Below w.heap.size w (w.alloc (Obj.cells (ndc (nv q) K).toArray 257)) := (Below.refl _ _).alloc (Nat.le_refl _) _
  have kN := blk_new w 257 (ndc (nv q) K).toArray
  have sN : (Tryz.prog.info? 257).map (·.size) = some (ndc (nv q) K).length := sizeNd
  have hq0 : ¬ (q : Int) < 0 := by omega
  have hmbl : mb < w.heap.size := hm.lt rfl
  go_enter Tryz.func177, Tryz.ntmps177
  go_upto_region 2 with (first | (refine wpList_load_at rfl 257 _ rfl b (q * 6) rfl (ndc (nv q) K) _ hcell Tryz.underlying257 rfl sN ?_) | (refine wpList_storeNew rfl 257 _ _ rfl w (ndc nilV nd0).toArray (ndc (nv q) K).toArray 257 rfl rfl sizeNd rfl (ndc_all _ _) ?_))
  change Code.wp _ _ _ _ (w.alloc (Obj.cells (ndc (nv q) K).toArray 257))
  have O1 := hO.below q0
  have st1 := st.belowT q0
  have m1 := hm.below q0
  have z1 : (w.alloc (Obj.cells (ndc (nv q) K).toArray 257)).heap.size = w.heap.size + 1 := by simp
  generalize w.alloc (Obj.cells (ndc (nv q) K).toArray 257) = W at *
  have kN' : Blk W 257 w.heap.size (ndc (nv q) K) := kN
  obtain ⟨_, curM, hcM⟩ := m1.blk
  have oM := onlyB_setCell W mb i (.bool true)
  have kT : ∀ t, 4 ≠ t → KeepT t W (W.setCell ⟨mb, i, none⟩ (.bool true)) := fun t ht => keepT_onlyC oM hcM ht
  have m2 := m1.set i (.bool true)
  rw [mkB_set _ _ _ hiN] at m2
  have st2 := st1.onlyM oM ⟨_, hcM⟩ hmb
  have kN2 := kN'.keepT (kT _ (by decide))
  have O2 := O1.keep (kT _ (by decide)) (kT _ (by decide))
  have u2 : OnlyB mb w (W.setCell ⟨mb, i, none⟩ (.bool true)) := (Below.onlyB q0 mb).trans oM
  have c0 : W.cell? ⟨w.heap.size, 0, none⟩ = some (.int .i64 (i : Nat)) := (kN'.cell 0).trans (by rw [← hi]; rfl)
  obtain ⟨_, e1, _, _, _, hmc⟩ := m1.at_ (by omega)
  cases e1
  have cM := (hmc i hiN).trans (congrArg some (mkB_get sn N i hiN))
  have fM := m1.free i
  have hip : (0 : Int) < (i : Int) := by omega
  have H2 : Hid _ := And.intro st2 (And.intro m2 (And.intro kN2 (And.intro O2 u2)))
  have hsz : w.heap.size < (W.setCell ⟨mb, i, none⟩ (.bool true)).heap.size := by have := oM.size; omega
  clear kN kN' O1 hO q0 hcell cT0 st hK sN st1 m1 m2 st2 kN2 O2 u2 kT oM hcM hmc hm z1
  have HIH : Hid _ := IH
  have HREP : Hid _ := hrep
  have HIN : Hid _ := hin
  clear IH hrep hin
  go_upto_region 4 with fail
  generalize W.setCell ⟨mb, i, none⟩ (.bool true) = W2 at *
  clear c0 cM fM
  generalize hkd : K.kids = kd at *
  have hkdl : kd.length ≤ 1048576 := by omega
  have HKD : Hid (kd.length = L.length) := hkl
  clear hkl
  go_wp2_with fail
  go_loopw [7] (fun x wr => ∃ j : Nat, x = .int .i64 (j : Nat) ∧ j ≤ kd.length ∧ OnlyB mb W2 wr ∧ Own1 4 0 wr (some ⟨mb, 0, none⟩) N N (mkB (pgsL (L.take j) ++ ((i : Int) :: sn)) N)) (fun x _ => kd.length - (intOf x).toNat)
  case atStart => exact ⟨0, rfl, Nat.zero_le _, OnlyB.refl _ _, by simpa [pgsL] using H2.out.2.1⟩
  case round =>
    obtain ⟨j, rfl, hj, ho, hmk⟩ := hrel
    obtain ⟨wR, hwX⟩ : ∃ wX, wX = wr := ⟨_, rfl⟩
    subst hwX
    obtain ⟨_, cur2, hc2⟩ := H2.out.2.1.blk
    have kT : ∀ t, 4 ≠ t → KeepT t W2 wR := fun t ht => keepT_onlyC ho hc2 ht
    have stR := H2.out.1.onlyM ho ⟨_, hc2⟩ hmb
    have kR := H2.out.2.2.1.keepT (kT _ (by decide))
    have OR := H2.out.2.2.2.1.keep (kT _ (by decide)) (kT _ (by decide))
    have c4 : wR.cell? ⟨w.heap.size, 4, none⟩ = some (.slice (nv q).da kd.length (nv q).dc) := by rw [← hkd]; exact kR.cell 4
    have hu : Hid (OnlyB mb w wR) := H2.out.2.2.2.2.trans ho
    have HO : Hid _ := ho
    clear ho kT kR hc2
    by_cases hlt : j < kd.length
    · have hlt' : (j : Int) < (kd.length : Int) := by omega
      have hLj : j < L.length := by have := HKD.out; omega
      have o1 := OR.kids
      rw [hkd] at o1
      obtain ⟨kb, hda, _, _, _, hkc⟩ := o1.at_ (by omega)
      rw [hda] at c4
      have ck := (hkc j hlt).trans (congrArg some (on_get kd j hlt))
      have RC := HIH.out j hLj (kd.getD j 0) _ wR stR hmk (HREP.out j hLj) (HIN.out j hLj)
      have hEq : Hid (mkB (pgsT (L.getD j t0).2 ++ (pgsL (L.take j) ++ ((i : Int) :: sn))) N = mkB (pgsL (L.take (j + 1)) ++ ((i : Int) :: sn)) N) := mkB_congr N (fun x => by
        have e : L.take (j + 1) = L.take j ++ [L.getD j t0] := by rw [List.take_add_one]; simp [List.getD, List.getElem?_eq_getElem hLj]
        rw [e]
        simp only [pgsL, List.flatMap_append, List.flatMap_cons, List.flatMap_nil, List.append_nil, List.mem_append]
        constructor
        · rintro (h | h | h)
          · exact Or.inl (Or.inr h)
          · exact Or.inl (Or.inl h)
          · exact Or.inr h
        · rintro ((h | h) | h)
          · exact Or.inr (Or.inl h)
          · exact Or.inl h
          · exact Or.inr (Or.inr h))
      generalize kd.getD j 0 = kp at *
      clear hkc o1 OR stR hmk hda
      go_wp2_with fail
      refine RC.mono ?_
      rintro e w5 ⟨rfl, o5, m5⟩
      rw [hEq.out] at m5
      have HM : Hid _ := And.intro o5 m5
      clear RC o5 m5 c4 ck
      go_wp2_with fail
      go_roundw
      case rel => exact ⟨j + 1, by go_num, by omega, HO.out.trans HM.out.1, HM.out.2⟩
      case measure => simp [intOf]; omega
    · have hje : j = kd.length := by omega
      have hlt' : ¬ (j : Int) < (kd.length : Int) := by omega
      have hT : L.take j = L := List.take_of_length_le (by have := HKD.out; omega)
      rw [hT] at hmk
      have HM : Hid _ := hmk
      clear hmk OR stR hT hje
      go_wp2_with fail
      go_end0
      exact ⟨rfl, hu.out, HM.out⟩
theorem pg_all {B0 g sb N : Nat} {rt : Int} {ns : List NdK} {nv : Nat → NdV} {na : Option Addr} {nc : Nat} {seen : List Int} {tall : Int} {bad : Bool} {mb : Nat} (hmb : mb ≠ sb) (hnl : ns.length ≤ 1048576) (hN : N ≤ 1024) : ∀ t : Tr,
    (isT t = true → full t true → smT t → PgC B0 g sb N rt ns nv na nc seen tall bad mb t) ∧ (isT t = false → ∀ b, full t b → smT t → ∀ m, m < (klist t).length → PgC B0 g sb N rt ns nv na nc seen tall bad mb ((klist t).getD m t0).2)
  | .leaf id es => ⟨fun _ _ _ => fun p sn w st hm hr hp => by
      rw [Rep] at hr
      obtain ⟨q, hq, hK⟩ := hr
      cases hq
      have h1 := hp id (by simp [pgsT])
      have := pg_step (mb := mb) hmb hnl hN q _ hK [] (by simp) rfl id.toNat (by show id = _; omega) (by omega) (by omega) (fun m hm => by simp at hm) (fun m hm => by simp at hm) (fun m hm => by simp at hm) sn w st hm
      rw [show ((id.toNat : Nat) : Int) = id by omega] at this
      simpa [pgsT, pgsL] using this, fun h => by simp [isT] at h⟩
  | .node id ks => ⟨fun _ hf hs => fun p sn w st hm hr hp => by
      rw [Rep] at hr
      obtain ⟨q, kd, sg, hq, hK, hR⟩ := hr
      cases hq
      rw [full] at hf
      rw [smT] at hs
      have hT : isT ks = false := by obtain ⟨s, t, r, rfl⟩ := hf.1; rfl
      obtain ⟨hdl, _, hrep⟩ := rep_list ks true kd sg hT hf.2 hR
      have h1 := hp id (by simp [pgsT])
      have hPK := pgs_klist ks hT true hf.2
      have hin : ∀ m, m < (klist ks).length → ∀ x ∈ pgsT ((klist ks).getD m t0).2, 0 < x ∧ x < (N : Int) := fun m hm x hx => hp x (by
        rw [pgsT, hPK, List.mem_cons]
        refine Or.inr (List.mem_flatMap.2 ⟨(klist ks).getD m t0, ?_, hx⟩)
        have e : (klist ks).getD m t0 = (klist ks)[m] := by simp [List.getD, List.getElem?_eq_getElem hm]
        rw [e]
        exact List.getElem_mem _)
      have := pg_step (mb := mb) hmb hnl hN q _ hK (klist ks) hs.1 hdl id.toNat (by show id = _; omega) (by omega) (by omega) hrep ((pg_all hmb hnl hN ks).2 hT true hf.2 hs.2) hin sn w st hm
      rw [show ((id.toNat : Nat) : Int) = id by omega] at this
      refine this.mono ?_
      rintro e w' ⟨h2, h3, h4⟩
      refine ⟨h2, h3, ?_⟩
      rw [mkB_congr (b := pgsL (klist ks) ++ (id :: sn)) N (fun x => by
        rw [pgsT, hPK]
        simp only [List.cons_append, List.mem_cons, List.mem_append]
        constructor
        · rintro (h | h | h)
          · exact Or.inr (Or.inl h)
          · exact Or.inl h
          · exact Or.inr (Or.inr h)
        · rintro (h | h | h)
          · exact Or.inr (Or.inl h)
          · exact Or.inl h
          · exact Or.inr (Or.inr h))]
      exact h4, fun h => by simp [isT] at h⟩
  | .nil => ⟨fun h => by simp [isT] at h, fun _ _ _ _ m hm => by simp [klist] at hm⟩
  | .cons s t ks => ⟨fun h => by simp [isT] at h, fun _ b hf hs m hm => by
      rw [full] at hf
      rw [smT] at hs
      cases m with
      | zero => exact (pg_all hmb hnl hN t).1 hf.2.1 hf.2.2.2.1 hs.1
      | succ m => exact (pg_all hmb hnl hN ks).2 hf.2.2.1 false hf.2.2.2.2 hs.2 m (by simpa [klist] using hm)⟩
end Go.Proofs.YtnohmedccbogkaaGreatDoor

namespace Go.Proofs.YtnohmedccbogkaaGreatDoor
open Go.RowKit
set_option linter.unusedVariables false
theorem lfP_facts : ∀ (n : Nat) (l : List Int) (es : List (ByteArray × ByteArray)), l.length ≤ n → lfP l = some es → es.length ≤ l.length ∧ ∀ e ∈ es, 1 ≤ e.1.size
  | 0, l, r, h, e => by rw [lfP_nil (by omega)] at e; cases e; exact ⟨by simp, by simp⟩
  | n + 1, l, r, h, e => by
    by_cases h0 : l.length = 0
    · rw [lfP_nil h0] at e; cases e; exact ⟨by simp, by simp⟩
    · cases h1 : lfOne l with
      | false => rw [lfP_no h0 h1] at e; cases e
      | true =>
        rw [lfP_yes h1] at e
        obtain ⟨r2, e2, rfl⟩ := Option.map_eq_some_iff.1 e
        have hb := lfOne_iff.1 h1
        have hl : lfLen l = 2 + lfK l + lfV l := rfl
        have := lfP_facts n (l.drop (lfLen l)) r2 (by rw [List.length_drop]; omega) e2
        rw [List.length_drop] at this
        refine ⟨by simp; omega, fun x hx => ?_⟩
        rcases List.mem_cons.1 hx with rfl | hx
        · show 1 ≤ (lfKey l).size
          unfold lfKey
          rw [strOfNums_size, List.length_take, List.length_drop]
          omega
        · exact this.2 x hx
theorem lnP_facts : ∀ (n : Nat) (l : List Int) (ls : List (ByteArray × Int)), l.length ≤ n → lnP l = some ls → ∀ e ∈ ls, 1 ≤ e.1.size
  | 0, l, r, h, e => by rw [lnP_nil (by omega)] at e; cases e; simp
  | n + 1, l, r, h, e => by
    by_cases h0 : l.length = 0
    · rw [lnP_nil h0] at e; cases e; simp
    · cases h1 : lnOne l with
      | false => rw [lnP_no h0 h1] at e; cases e
      | true =>
        rw [lnP_yes h1] at e
        obtain ⟨r2, e2, rfl⟩ := Option.map_eq_some_iff.1 e
        have hb := lnOne_iff.1 h1
        have := lnP_facts n (l.drop (5 + lfK l)) r2 (by rw [List.length_drop]; omega) e2
        intro x hx
        rcases List.mem_cons.1 hx with rfl | hx
        · show 1 ≤ (lfKey l).size
          unfold lfKey
          rw [strOfNums_size, List.length_take, List.length_drop]
          omega
        · exact this x hx
structure TrOk (P : Pg) (N : Nat) (st : St) (t : Tr) (st' : St) : Prop where
  full : full t true
  isT : isT t = true
  sm : smT t
  keys : ∀ k ∈ keysT t, 1 ≤ k.size
  pgs : ∀ x ∈ pgsT t, 2 ≤ x ∧ x < (N : Int)
  seen : st'.seen.Perm (pgsT t ++ st.seen)
structure KsOk (P : Pg) (N : Nat) (st : St) (b : Bool) (ls : List (ByteArray × Int)) (t : Tr) (st' : St) : Prop where
  full : full t b
  isT : isT t = false
  sm : smT t
  len : (klist t).length = ls.length
  keys : ∀ k ∈ keysT t, 1 ≤ k.size
  pgs : ∀ x ∈ pgsT t, 2 ≤ x ∧ x < (N : Int)
  seen : st'.seen.Perm (pgsT t ++ st.seen)
theorem rdK_ok {P : Pg} {N : Nat} {r : St → Int → Option (Tr × St)} (hr : ∀ st id t st', r st id = some (t, st') → TrOk P N st t st') : ∀ (ls : List (ByteArray × Int)) (b : Bool) (st : St) (t : Tr) (st' : St), (∀ m, (b = true → 0 < m) → m < ls.length → 1 ≤ (ls.getD m d0).1.size) → rdK r ls st = some (t, st') → KsOk P N st b ls t st'
  | [], b, st, t, st', _, h => by
    rw [rdK] at h
    cases h
    exact ⟨by simp [full], rfl, by simp [smT], rfl, by simp [keysT], by simp [pgsT], by simp [pgsT]⟩
  | (s, id) :: ls, b, st, t, st', hs, h => by
    rw [rdK] at h
    obtain ⟨x, h1, h2⟩ := Option.bind_eq_some_iff.1 h
    obtain ⟨y, h3, h4⟩ := Option.bind_eq_some_iff.1 h2
    cases h4
    have a := hr st id x.1 x.2 h1
    have k := rdK_ok hr ls false x.2 y.1 y.2 (fun m _ hm => by
      have := hs (m + 1) (fun _ => by omega) (by simp; omega)
      simpa using this) h3
    refine ⟨?_, rfl, ⟨a.sm, k.sm⟩, by simp [klist, k.len], fun kk hk => ?_, fun p hp => ?_, ?_⟩
    · rw [full]
      exact ⟨fun hb => by simpa using hs 0 (fun e => by rw [hb] at e; cases e) (by simp), a.isT, k.isT, a.full, k.full⟩
    · rw [keysT, List.mem_append] at hk
      rcases hk with hk | hk
      · exact a.keys kk hk
      · exact k.keys kk hk
    · rw [pgsT, List.mem_append] at hp
      rcases hp with hp | hp
      · exact a.pgs p hp
      · exact k.pgs p hp
    · rw [pgsT]
      refine k.seen.trans ?_
      refine (List.Perm.append_left _ a.seen).trans ?_
      rw [← List.append_assoc]
      exact List.Perm.append_right _ List.perm_append_comm
theorem rdT_ok {P : Pg} {N : Nat} (PW : PgW P N) : ∀ (f : Nat) (steps : Int) (st : St) (id : Int) (t : Tr) (st' : St), rdT P f steps st id = some (t, st') → TrOk P N st t st'
  | 0, steps, st, id, t, st', h => by rw [rdT] at h; cases h
  | f + 1, steps, st, id, t, st', h => by
    rw [rdT] at h
    cases hp : pgOk P st id with
    | false => rw [if_neg (by rw [hp]; decide)] at h; cases h
    | true =>
      rw [if_pos hp] at h
      obtain ⟨p1, p2, p3, p4⟩ := pgOk_iff.1 hp
      have hN := (PW.ok id p1).2
      have hl := PW.len id
      by_cases hk : P.kd id = 2
      · rw [if_pos hk] at h
        by_cases ht : st.tall < 0 ∨ st.tall = steps
        · rw [if_pos ht] at h
          obtain ⟨es, h1, h2⟩ := Option.bind_eq_some_iff.1 h
          by_cases he : es.isEmpty = true
          · rw [if_pos he] at h2; cases h2
          · rw [if_neg he] at h2
            cases h2
            have F := lfP_facts _ _ es (Nat.le_refl _) h1
            exact ⟨by rw [full]; simpa using he, rfl, by rw [smT]; omega, fun k hk => by
              rw [keysT] at hk
              obtain ⟨e, he, rfl⟩ := List.mem_map.1 hk
              exact F.2 e he, fun x hx => by rw [pgsT] at hx; simp at hx; subst hx; exact ⟨p2, hN⟩, by simp [pgsT]⟩
        · rw [if_neg ht] at h; cases h
      · rw [if_neg hk] at h
        obtain ⟨ls, h1, h2⟩ := Option.bind_eq_some_iff.1 h
        obtain ⟨y, h3, h4⟩ := Option.map_eq_some_iff.1 h2
        cases h4
        have hll := inP_len h1
        have hin := h1
        unfold inP at hin
        by_cases h4 : 4 ≤ (P.bd id).length
        · rw [if_pos h4] at hin
          obtain ⟨r, e2, e3⟩ := Option.map_eq_some_iff.1 hin
          have F := lnP_facts _ _ r (Nat.le_refl _) e2
          have k := rdK_ok (P := P) (N := N) (fun st id t st' h => rdT_ok PW f (steps + 1) st id t st' h) ls true ⟨id :: st.seen, st.tall⟩ y.1 y.2 (fun m hm hml => by
            subst e3
            cases m with
            | zero => exact absurd (hm rfl) (Nat.lt_irrefl _)
            | succ m =>
              have hmr : m < r.length := by simpa using hml
              have := F r[m] (List.getElem_mem _)
              simpa [List.getD, List.getElem?_eq_getElem hmr] using this) h3
          refine ⟨?_, rfl, ⟨by rw [k.len]; omega, k.sm⟩, k.keys, fun x hx => ?_, ?_⟩
          · rw [full]
            refine ⟨?_, k.full⟩
            have hlen := k.len
            have hT := k.isT
            cases hy : y.1 with
            | cons s t r => exact ⟨s, t, r, rfl⟩
            | nil => rw [hy] at hlen; subst e3; simp [klist] at hlen
            | leaf _ _ => rw [hy] at hT; simp [Go.Proofs.YtnohmedccbogkaaGreatDoor.isT] at hT
            | node _ _ => rw [hy] at hT; simp [Go.Proofs.YtnohmedccbogkaaGreatDoor.isT] at hT
          · rw [pgsT, List.mem_cons] at hx
            rcases hx with rfl | hx
            · exact ⟨p2, hN⟩
            · exact k.pgs x hx
          · rw [pgsT]
            have := k.seen
            exact this.trans (by simp)
        · rw [if_neg h4] at hin; cases hin
end Go.Proofs.YtnohmedccbogkaaGreatDoor

