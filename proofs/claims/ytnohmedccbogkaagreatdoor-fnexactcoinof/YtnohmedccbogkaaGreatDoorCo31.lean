import Derived.Test.YtnohmedccbogkaaGreatDoorCo0
import Derived.Test.YtnohmedccbogkaaGreatDoorCo4
import Derived.Test.YtnohmedccbogkaaGreatDoorCo30
import Derived.Test.YtnohmedccbogkaaGreatDoorCo3
import Derived.Test.YtnohmedccbogkaaGreatDoorCo6
import Derived.Laws.Append
import Derived.Deep.DeepCutAuto
import Derived.Deep.RegionWith
/- Rows of numbers. -/
namespace Go.Proofs.YtnohmedccbogkaaGreatDoor
open Go.RowKit
set_option linter.unusedVariables false

theorem infoI : (Tryz.prog.info? 3).map (fun i => (i.zero, i.size, i.bytes)) = some (some (.int .i64 0), 1, 8) := by kernel_rfl

/-- The cells of a list of numbers. -/
def oi (l : List Int) : List Value := l.map (Value.int .i64)



end Go.Proofs.YtnohmedccbogkaaGreatDoor

/- Transactions: what their values hold. -/
namespace Go.Proofs.YtnohmedccbogkaaGreatDoor
open Go.RowKit
set_option linter.unusedVariables false

/-- The cells of a point. -/
def pc (p : List Int × Int) : List Value := ob p.1 ++ [.int .i64 p.2]
theorem pc_len (p : List Int × Int) (h : p.1.length = 32) : (pc p).length = 33 := by simp [pc, ob_length, h]
theorem pc_one (p : List Int × Int) : ∀ u ∈ pc p, u.oneCell' = true := by
  intro u hu
  simp only [pc, List.mem_append, List.mem_singleton] at hu
  rcases hu with hu | rfl
  · exact ob_oneCell _ u hu
  · rfl
theorem pc_id (p : List Int × Int) (h : p.1.length = 32) (j : Nat) (hj : j < 32) : (pc p)[j]? = some (.int .u8 (p.1.getD j 0)) := by
  unfold pc
  rw [List.getElem?_append_left (by rw [ob_length]; omega)]
  exact ob_getElem? _ j (by omega)
theorem pc_n (p : List Int × Int) (h : p.1.length = 32) : (pc p)[32]? = some (.int .i64 p.2) := by
  unfold pc
  rw [List.getElem?_append_right (by rw [ob_length]; omega), ob_length, h]
  rfl
theorem pc_idOf (p : List Int × Int) : ∀ (j : Nat) (v : Value), (ob p.1)[j]? = some v → (pc p)[j]? = some v := fun j v h => by
  unfold pc
  rw [List.getElem?_append_left ((List.getElem?_eq_some_iff.1 h).1)]
  exact h
def zeroP : List Int × Int := (List.replicate 32 0, 0)


theorem sizePt : (Tryz.prog.info? 52).map (·.size) = some 33 := by kernel_rfl
theorem sizeL' : (Tryz.prog.info? 31).map (·.size) = some 32 := by kernel_rfl
theorem elIntT : ElT 119 3 1 (.int .i64 0) 8 := ⟨Tryz.underlying119, infoI, rfl, by omega⟩
theorem pc_size (p : List Int × Int) (h : p.1.length = 32) : (pc p).toArray.size = 33 := by simp [pc_len p h]
theorem pc_all (p : List Int × Int) : (pc p).toArray.all (·.oneCell') = true := by
  rw [Array.all_eq_true_iff_forall_mem]
  intro v hv
  exact pc_one p v (by simpa using hv)
end Go.Proofs.YtnohmedccbogkaaGreatDoor

/- The laws' copies of transactions. -/
namespace Go.Proofs.YtnohmedccbogkaaGreatDoor
open Go.RowKit
set_option linter.unusedVariables false

theorem pc_take (p : List Int × Int) (x : List Int) (hp : p.1.length = 32) (hx : x.length = 32) : (pc p).take 0 ++ ob x ++ (pc p).drop (0 + (ob x).length) = pc (x, p.2) := by
  rw [ob_length, hx, List.take_zero, List.nil_append, Nat.zero_add]
  unfold pc
  rw [List.drop_append_of_le_length (by rw [ob_length]; omega), List.drop_eq_nil_of_le (by rw [ob_length]; omega), List.nil_append]
theorem pc_set (p : List Int × Int) (v : Int) (hp : p.1.length = 32) : (pc p).set 32 (.int .i64 v) = pc (p.1, v) := by
  unfold pc
  rw [List.set_append_right _ _ (by rw [ob_length]; omega), ob_length, hp]
  rfl

set_option maxHeartbeats 1000000 in
set_option maxRecDepth 100000 in
theorem toPoint_calls (p : List Int × Int) (w : World) (hl : p.1.length = 32) :
    Calls Tryz.prog 15 #[.agg (pc p).toArray] w fun e w' => e = .returned (.agg (pc p).toArray) ∧ Below w.heap.size w w' := by
  have k0 := blk_new w 46 (pc p).toArray
  have k1 := blk_new (w.alloc (Obj.cells (pc p).toArray 46)) 52 (pc zeroP).toArray
  have k2 := blk_new ((w.alloc (Obj.cells (pc p).toArray 46)).alloc (Obj.cells (pc zeroP).toArray 52)) 52 (pc zeroP).toArray
  have k1' := k1.below ((Below.refl _ _).alloc (Nat.le_refl _) (Obj.cells (pc zeroP).toArray 52))
  have k0' := (k0.below ((Below.refl _ _).alloc (Nat.le_refl _) (Obj.cells (pc zeroP).toArray 52))).below ((Below.refl _ _).alloc (Nat.le_refl _) (Obj.cells (pc zeroP).toArray 52))
  have bb : Below w.heap.size w (((w.alloc (Obj.cells (pc p).toArray 46)).alloc (Obj.cells (pc zeroP).toArray 52)).alloc (Obj.cells (pc zeroP).toArray 52)) := (below_alloc2 w _ _).alloc (by simp; omega) _
  have z1 : (w.alloc (Obj.cells (pc p).toArray 46)).heap.size = w.heap.size + 1 := by simp
  have z2 : ((w.alloc (Obj.cells (pc p).toArray 46)).alloc (Obj.cells (pc zeroP).toArray 52)).heap.size = w.heap.size + 1 + 1 := by simp
  rw [z1] at k1'
  rw [z2] at k2
  go_enter Tryz.func15, Tryz.ntmps15
  go_upto_region 2 with fail
  change Code.wp _ _ _ _ (((w.alloc (Obj.cells (pc p).toArray 46)).alloc (Obj.cells (pc zeroP).toArray 52)).alloc (Obj.cells (pc zeroP).toArray 52))
  generalize ((w.alloc (Obj.cells (pc p).toArray 46)).alloc (Obj.cells (pc zeroP).toArray 52)).alloc (Obj.cells (pc zeroP).toArray 52) = W at *
  have kA : Blk W 46 w.heap.size (pc p) := k0'
  have kR : Blk W 52 (w.heap.size + 1) (pc zeroP) := k1'
  have kO : Blk W 52 (w.heap.size + 1 + 1) (pc zeroP) := k2
  clear k0 k1 k2 k1' k0' z1 z2
  have hc : ∀ j v, (ob p.1)[j]? = some v → W.cell? ⟨w.heap.size, 0 + j, none⟩ = some v := fun j v h => by rw [Nat.zero_add, kA.cell]; exact pc_idOf p j v h
  have sL : (Tryz.prog.info? 31).map (·.size) = some (ob p.1).length := by rw [ob_length, hl]; exact sizeL'
  have sH : (Tryz.prog.info? 32).map (·.size) = some (ob p.1).length := by rw [ob_length, hl]; exact sizeH
  go_wp2_with (refine wpList_load_at rfl 31 _ rfl w.heap.size 0 rfl (ob p.1) _ hc Tryz.underlying31 rfl sL ?_)
  refine (toHash_calls p.1 W hl).mono ?_
  rintro e w2 ⟨rfl, b2⟩
  have kA2 := kA.below b2
  have kR2 := kR.below b2
  have kO2 := kO.below b2
  have bb2 : Below w.heap.size w w2 := bb.trans (b2.mono bb.size)
  have hput := pc_take zeroP p.1 rfl hl
  have kO3 := kO2.setRow (pc (p.1, 0))
  have o3 := onlyB_setRow w2 (w.heap.size + 1 + 1) (pc (p.1, 0)).toArray
  have kA3 := kA2.only o3 (by omega)
  have kR3 := kR2.only o3 (by omega)
  have bb3 : Below w.heap.size w (w2.setRow (w.heap.size + 1 + 1) (pc (p.1, 0)).toArray) := bb2.trans (o3.below (by omega) bb2.size)
  have eH : Hid ((pc zeroP).take 0 ++ ob p.1 ++ (pc zeroP).drop (0 + (ob p.1).length) = pc (p.1, 0)) := hput
  have HK : Hid _ := And.intro kA3 (And.intro kR3 (And.intro kO3 bb3))
  clear kA kR kO kA2 kR2 b2 bb bb2 hc hput kA3 kR3 kO3 bb3 o3
  have hfit : 0 + (ob p.1).length ≤ (pc zeroP).length := by rw [ob_length, hl]; decide
  go_upto_region 3 with (refine wpList_store_mid' rfl 32 _ _ rfl (w.heap.size + 1 + 1) 0 (ob p.1) rfl rfl 52 (pc zeroP) kO2 sH hfit (ob_oneCell _) ?_)
  rw [eH.out]
  have c1 : (w2.setRow (w.heap.size + 1 + 1) (pc (p.1, 0)).toArray).cell? ⟨w.heap.size, 32, none⟩ = some (.int .i64 p.2) := by rw [HK.out.1.cell]; exact pc_n p hl
  have c2 : (w2.setRow (w.heap.size + 1 + 1) (pc (p.1, 0)).toArray).cell? ⟨w.heap.size + 1 + 1, 32, none⟩ = some (.int .i64 0) := by rw [HK.out.2.2.1.cell]; exact pc_n (p.1, 0) hl
  have f2 := HK.out.2.2.1.free 32
  have kO4 := HK.out.2.2.1.set 32 (.int .i64 p.2)
  rw [pc_set (p.1, 0) p.2 hl] at kO4
  have o4 := onlyB_setCell (w2.setRow (w.heap.size + 1 + 1) (pc (p.1, 0)).toArray) (w.heap.size + 1 + 1) 32 (.int .i64 p.2)
  have kR4 := HK.out.2.1.only o4 (by omega)
  have bb4 := HK.out.2.2.2.trans (o4.below (by omega) HK.out.2.2.2.size)
  have HK4 : Hid _ := And.intro kR4 (And.intro kO4 bb4)
  clear kO2 kO4 kR4 bb4 HK eH o4
  generalize w2.setRow (w.heap.size + 1 + 1) (pc (p.1, 0)).toArray = w3 at *
  go_upto_region 4 with fail
  obtain ⟨kR5, kO5, bb5⟩ := HK4.out
  clear HK4 c1 c2 f2
  generalize w3.setCell _ _ = w4 at *
  have s1 : (Tryz.prog.info? 52).map (·.size) = some (pc (p.1, p.2)).toArray.size := by rw [pc_size _ hl]; exact sizePt
  have kF := kR5.setRow (pc (p.1, p.2))
  have oF := onlyB_setRow w4 (w.heap.size + 1) (pc (p.1, p.2)).toArray
  have bF : Below w.heap.size w (w4.setRow (w.heap.size + 1) (pc (p.1, p.2)).toArray) := bb5.trans (oF.below (by omega) bb5.size)
  have so : (pc zeroP).toArray.size = (pc (p.1, p.2)).toArray.size := by rw [pc_size _ hl]; rfl
  go_wp2_with (first | (refine wpList_load_row rfl 52 _ rfl (w.heap.size + 1 + 1) rfl 52 (pc (p.1, p.2)).toArray (0, 0) _ kO5 Tryz.underlying52 rfl s1 ?_) | (refine wpList_store_row rfl 52 _ _ rfl (w.heap.size + 1) (pc (p.1, p.2)).toArray rfl rfl 52 _ kR5 s1 so (pc_all _) ?_))
  refine bodyPost_ret (v := .agg (pc (p.1, p.2)).toArray) ?_ rfl ⟨rfl, bF⟩
  exact results_cell_row Tryz.results15 _ _ (w.heap.size + 1) 52 (pc (p.1, p.2)).toArray (0, 0) _ rfl kF Tryz.underlying52 rfl s1



end Go.Proofs.YtnohmedccbogkaaGreatDoor

/- The keys of coins. -/
namespace Go.Proofs.YtnohmedccbogkaaGreatDoor
open Go.RowKit
set_option linter.unusedVariables false

theorem addr_add (b j : Nat) : (⟨b, 0, none⟩ : Addr).add j = ⟨b, 0 + j, none⟩ := by
  unfold Addr.add
  split
  · rename_i h; subst h; rfl
  · rfl
theorem infU8 : (Tryz.prog.info? 5).map (fun i => (i.zero, i.size, i.bytes)) = some (some (.int .u8 0), 1, 1) := by kernel_rfl
/-- One byte behind a full slice. -/
theorem wp_appFull {w : World} {o : Oper} {act : Act} {K : Act → World → Prop} {Q : Exit → Act → World → Prop} (s x : Operand) (ho : o.op = .call { callee := .builtin .append, args := #[s, x], argTypes := #[70, 70] })
    (b : Nat) (n : Nat) (l : List Int) (hs : act.eval s = .slice (some ⟨b, 0, none⟩) n n) (hb : Bs w (some ⟨b, 0, none⟩) n n l) (a : Nat) (y : Int) (hx : act.eval x = .slice (some ⟨a, 0, none⟩) 1 1) (ha : Bs w (some ⟨a, 0, none⟩) 1 1 [y]) (hn : 0 < n) (hn2 : n ≤ 1048576)
    (h : ∀ c w', Below w.heap.size w w' → Bs w' (some ⟨w.heap.size, 0, none⟩) (n + 1) c (l ++ [y]) → K (act.put o.dst (.slice (some ⟨w.heap.size, 0, none⟩) (n + 1) c)) w') : o.wp Tryz.prog act w K Q := by
  obtain ⟨i, hi, h0, h1, h2⟩ := info_parts infU8
  have hll := hb.len_eq
  have co : ∀ j v, (ob l)[j]? = some v → w.cell? ((⟨b, 0, none⟩ : Addr).add j) = some v := fun j v hv => by
    have hj : j < n := by have := (List.getElem?_eq_some_iff.1 hv).1; rw [ob_length] at this; omega
    obtain ⟨_, _, e, _, hc⟩ := hb.at_ hn
    cases e
    have := hc j hj
    rw [ob_getElem? _ j (by omega)] at hv
    rw [← hv, addr_add]
    exact this
  have cn : ∀ j v, (ob [y])[j]? = some v → w.cell? ((⟨a, 0, none⟩ : Addr).add j) = some v := fun j v hv => by
    have hj : j < 1 := by have := (List.getElem?_eq_some_iff.1 hv).1; rw [ob_length] at this; simpa using this
    obtain ⟨_, _, e, _, hc⟩ := ha.at_ (by omega)
    cases e
    have := hc j hj
    rw [ob_getElem? _ j (by simpa using hj)] at hv
    rw [← hv, addr_add]
    exact this
  have R := run_append_grow (P := Tryz.prog) w 70 o.type 5 i (.int .u8 0) Tryz.underlying70 hi h0 ⟨b, 0, none⟩ n n (ob l) (by rw [ob_length, h1]; omega) co ⟨a, 0, none⟩ 1 1 (ob [y]) (by rw [ob_length, h1]; rfl) cn (by omega) (by omega) (by
    rw [h2]
    exact growslice_fits (by omega) (by omega))
  unfold Oper.wp execOp
  simp only [ho, resolve, invoke, builtin, Sem.run_bind, Sem.run_pure, Result.andThen_ok, List.map_toArray, List.map_cons, List.map_nil, hs, hx, R]
  have hcg := grownCap_ge w (n + 1) n 5
  have hcm := grownCap_le_maxLen w (n + 1) n 5 (by unfold maxLen; omega)
  generalize grownCap w (n + 1) n 5 = cp at *
  have kb := blk_new w.drew 5 ((ob l).toArray ++ (ob [y]).toArray ++ Builtin.zeroCells (Value.int .u8 0).cells (cp - (n + 1)))
  have q : Below w.heap.size w (w.drew.alloc (Obj.cells ((ob l).toArray ++ (ob [y]).toArray ++ Builtin.zeroCells (Value.int .u8 0).cells (cp - (n + 1))) 5)) := (show Below w.heap.size w w.drew from ⟨rfl, rfl, rfl, Nat.le_refl _, fun _ _ => rfl⟩).alloc (Nat.le_refl _) _
  refine h _ _ q ⟨by rw [List.length_append, hll]; rfl, hcg, hcm, fun e => (by cases e), fun _ => ⟨w.heap.size, 0, rfl, by simp, fun j hj => ?_⟩, ?_⟩
  · rw [show 0 + j = j by omega]
    have kb' : Blk (w.drew.alloc (Obj.cells ((ob l).toArray ++ (ob [y]).toArray ++ Builtin.zeroCells (Value.int .u8 0).cells (cp - (n + 1))) 5)) 5 w.heap.size ((ob l).toArray ++ (ob [y]).toArray ++ Builtin.zeroCells (Value.int .u8 0).cells (cp - (n + 1))).toList := kb
    rw [kb'.cell j]
    have e : ((ob l).toArray ++ (ob [y]).toArray ++ Builtin.zeroCells (Value.int .u8 0).cells (cp - (n + 1))).toList = ob (l ++ [y]) ++ (Builtin.zeroCells (Value.int .u8 0).cells (cp - (n + 1))).toList := by simp [ob]
    have hlen : (ob (l ++ [y])).length = n + 1 := by rw [ob_length, List.length_append, hll]; rfl
    rw [e, List.getElem?_append_left (by omega), ob_getElem? _ j (by rw [List.length_append, hll]; exact hj)]
  · exact isB_append hb.byte ha.byte
theorem wpList_appFull {w : World} {ops : Array Oper} {rest : List Oper} {o : Oper} {act : Act} {Q : Exit → Act → World → Prop} (hgd : o.guard = none) (s x : Operand) (ho : o.op = .call { callee := .builtin .append, args := #[s, x], argTypes := #[70, 70] })
    (b : Nat) (n : Nat) (l : List Int) (hs : act.eval s = .slice (some ⟨b, 0, none⟩) n n) (hb : Bs w (some ⟨b, 0, none⟩) n n l) (a : Nat) (y : Int) (hx : act.eval x = .slice (some ⟨a, 0, none⟩) 1 1) (ha : Bs w (some ⟨a, 0, none⟩) 1 1 [y]) (hn : 0 < n) (hn2 : n ≤ 1048576)
    (h : ∀ c w', Below w.heap.size w w' → Bs w' (some ⟨w.heap.size, 0, none⟩) (n + 1) c (l ++ [y]) → wpList Tryz.prog ops Q rest (act.put o.dst (.slice (some ⟨w.heap.size, 0, none⟩) (n + 1) c)) w') : wpList Tryz.prog ops Q (o :: rest) act w :=
  wpList_plain hgd fun _ hK => wp_appFull s x ho b n l hs hb a y hx ha hn hn2 fun c w' h1 h2 => hK _ _ (h c w' h1 h2)
theorem blk_bs {w : World} {t g n : Nat} {l : List Int} (h : Blk w t g (ob l)) (hl : l.length = n) (hn : n ≤ 1048576) (hB : IsB l) : Bs w (some ⟨g, 0, none⟩) n n l :=
  ⟨hl, Nat.le_refl _, by unfold maxLen; omega, fun e => (by cases e), fun _ => ⟨g, 0, rfl, h.lt, fun i hi => by rw [show 0 + i = i by omega, h.cell i]; exact ob_getElem? l i (by omega)⟩, hB⟩
theorem son_app2 (l m : List Int) : strOfNums l ++ strOfNums m = strOfNums (l ++ m) := by
  apply ByteArray.ext
  simp [strOfNums]

set_option maxHeartbeats 2000000 in
set_option maxRecDepth 100000 in
theorem hashText_calls (l : List Int) (n : Int) (hl : l.length = 32) (hB : IsB l) (h0 : 0 ≤ n) (h1 : n < 256) (w : World) :
    Calls Tryz.prog 133 #[.agg (ob l).toArray, .int .i64 n] w fun e w' => e = .returned (.string (strOfNums (l ++ [n]))) ∧ Below w.heap.size w w' := by
  have k0 : Blk (w.alloc (Obj.cells (ob l).toArray 32)) 32 w.heap.size (ob l) := blk_new w 32 (ob l).toArray
  have q0 : Below w.heap.size w (w.alloc (Obj.cells (ob l).toArray 32)) := (Below.refl _ _).alloc (Nat.le_refl _) _
  go_enter Tryz.func133, Tryz.ntmps133
  go_upto_region 1 with fail
  generalize w.alloc (Obj.cells (ob l).toArray 32) = W0 at *
  have q1 : Below W0.heap.size W0 (W0.alloc (.cells #[.int .u8 n] 5)) := (Below.refl _ _).alloc (Nat.le_refl _) _
  have R0 := (blk_bs k0 hl (by omega) hB).below q1
  have R1 := bs_lit1 W0 n h0 h1
  have HB : Hid _ := q0.trans (q1.mono q0.size)
  have HZ : Hid ((W0.alloc (.cells #[.int .u8 n] 5)).heap.size = W0.heap.size + 1) := by show (W0.alloc (.cells #[.int .u8 n] 5)).heap.size = _; simp
  clear k0 q0 q1
  go_wp2_with (refine wpList_appFull rfl _ _ rfl w.heap.size 32 l rfl R0 W0.heap.size n rfl R1 (by omega) (by omega) ?_; rintro cx wx bx rx; have kc := conv_bsD (n := 33) rx; rw [HZ.out] at kc)
  go_ret
  exact ⟨rfl, HB.out.trans (bx.mono HB.out.size)⟩

/-- The key of a coin. -/
def kyC (p : List Int × Int) : ByteArray := strOfNums (99 :: (p.1 ++ [p.2]))

set_option maxHeartbeats 2000000 in
set_option maxRecDepth 100000 in
theorem coinKey_calls (p : List Int × Int) (hl : p.1.length = 32) (hB : IsB p.1) (h0 : 0 ≤ p.2) (h1 : p.2 < 256) (w : World) :
    Calls Tryz.prog 92 #[.agg (pc p).toArray] w fun e w' => e = .returned (.string (kyC p)) ∧ Below w.heap.size w w' := by
  have k0 : Blk (w.alloc (Obj.cells (pc p).toArray 52)) 52 w.heap.size (pc p) := blk_new w 52 (pc p).toArray
  have q0 : Below w.heap.size w (w.alloc (Obj.cells (pc p).toArray 52)) := (Below.refl _ _).alloc (Nat.le_refl _) _
  go_enter Tryz.func92, Tryz.ntmps92
  go_upto_region 1 with fail
  change Code.wp _ _ _ _ (w.alloc (Obj.cells (pc p).toArray 52))
  generalize w.alloc (Obj.cells (pc p).toArray 52) = W0 at *
  have HT := hashText_calls p.1 p.2 hl hB h0 h1 W0
  have hc5 : ∀ j u, (ob p.1)[j]? = some u → W0.cell? ⟨w.heap.size, 0 + j, none⟩ = some u := fun j u hu => by
    have hj : j < 32 := by have := (List.getElem?_eq_some_iff.1 hu).1; rw [ob_length] at this; omega
    rw [show 0 + j = j by omega, k0.cell j, pc_id p hl j hj, ← hu, ob_getElem? _ j (by omega)]
  have c32 : W0.cell? ⟨w.heap.size, 32, none⟩ = some (.int .i64 p.2) := (k0.cell 32).trans (pc_n p hl)
  have s2 : (Tryz.prog.info? 32).map (·.size) = some (ob p.1).length := by rw [ob_length, hl]; exact sizeH
  have HQ : Hid _ := q0
  have HK : Hid (kyC p = ⟨#[99]⟩ ++ strOfNums (p.1 ++ [p.2])) := by
    show kyC p = _
    unfold kyC
    rw [show (⟨#[99]⟩ : ByteArray) = strOfNums [99] from rfl, son_app2]
    rfl
  have hsz : ((strOfNums (p.1 ++ [p.2])).size : Int) = 33 := by rw [strOfNums_size, List.length_append, hl]; rfl
  generalize strOfNums (p.1 ++ [p.2]) = tx at *
  have hcc : ¬ (9223372036854775807 : Int) < 1 + (tx.size : Int) := by omega
  clear k0 q0 hsz
  go_wp2_with (refine wpList_load_at rfl 32 _ rfl w.heap.size 0 rfl (ob p.1) _ hc5 Tryz.underlying32 rfl s2 ?_)
  refine HT.mono ?_
  rintro e w1 ⟨rfl, b1⟩
  have FIN : Hid _ := HQ.out.trans (b1.mono HQ.out.size)
  clear HT b1
  go_wp2_with fail
  go_ret
  rw [HK.out]
  exact ⟨rfl, FIN.out⟩

set_option maxHeartbeats 8000000 in
set_option maxRecDepth 100000 in
theorem l6CoinKey_calls (p : List Int × Int) (hl : p.1.length = 32) (hB : IsB p.1) (h0 : 0 ≤ p.2) (h1 : p.2 < 256) (w : World) :
    Calls Tryz.prog 68 #[.agg (pc p).toArray] w fun e w' => e = .returned (.string (kyC p)) ∧ Below w.heap.size w w' := by
  have k0 : Blk (w.alloc (Obj.cells (pc p).toArray 52)) 52 w.heap.size (pc p) := blk_new w 52 (pc p).toArray
  have q0 : Below w.heap.size w (w.alloc (Obj.cells (pc p).toArray 52)) := (Below.refl _ _).alloc (Nat.le_refl _) _
  go_enter Tryz.func68, Tryz.ntmps68
  go_upto_region 1 with fail
  change Code.wp _ _ _ _ (w.alloc (Obj.cells (pc p).toArray 52))
  generalize w.alloc (Obj.cells (pc p).toArray 52) = W0 at *
  have s2 : (Tryz.prog.info? 32).map (·.size) = some (ob p.1).length := by rw [ob_length, hl]; exact sizeH
  have HCS : Hid (∀ u, Below W0.heap.size W0 u → (Instr.loadAt 32 (.pointer (some ⟨w.heap.size, 0, none⟩))).run Tryz.prog u = .ok (.agg (ob p.1).toArray) u ∧ u.cell? ⟨w.heap.size, 32, none⟩ = some (.int .i64 p.2)) := fun u hu => by
    have k := k0.below hu
    refine ⟨?_, (k.cell 32).trans (pc_n p hl)⟩
    simp only [Instr.loadAt, Instr.sureAddr, Sem.run_bind, Sem.run_pure, Result.andThen]
    refine run_loadVar_at u w.heap.size 0 32 (ob p.1) _ (fun j v hv => ?_) Tryz.underlying32 rfl s2
    have hj : j < 32 := by have := (List.getElem?_eq_some_iff.1 hv).1; rw [ob_length] at this; omega
    rw [show 0 + j = j by omega, k.cell j, pc_id p hl j hj, ← hv, ob_getElem? _ j (by omega)]
  have HK : Hid (kyC p = (⟨#[99]⟩ ++ strOfNums p.1) ++ strOfNums [p.2]) := by
    show kyC p = _
    unfold kyC
    rw [show (⟨#[99]⟩ : ByteArray) = strOfNums [99] from rfl, son_app2, son_app2]
    simp
  have hz1 : ((strOfNums p.1).size : Int) = 32 := by rw [strOfNums_size, hl]; rfl
  have hz2 : ((strOfNums [p.2]).size : Int) = 1 := by rw [strOfNums_size]; rfl
  obtain ⟨t1, ht1⟩ : ∃ t, strOfNums p.1 = t := ⟨_, rfl⟩
  obtain ⟨t2, ht2⟩ : ∃ t, strOfNums [p.2] = t := ⟨_, rfl⟩
  rw [ht1] at hz1 HK
  rw [ht2] at hz2 HK
  have Ht1 : Hid _ := ht1
  have Ht2 : Hid _ := ht2
  have hz3 : ((⟨#[99]⟩ ++ t1 : ByteArray).size : Int) = 33 := by
    rw [ByteArray.size_append]
    have : ((⟨#[99]⟩ : ByteArray).size : Nat) = 1 := rfl
    omega
  have hcc : ¬ (9223372036854775807 : Int) < 1 + (t1.size : Int) := by omega
  have hcd : ¬ (9223372036854775807 : Int) < ((⟨#[99]⟩ ++ t1 : ByteArray).size : Int) + (t2.size : Int) := by omega
  have hce : ¬ (9223372036854775807 : Int) < 1 + (t1.size : Int) + (t2.size : Int) := by omega
  clear ht1 ht2
  clear hz1 hz2 hz3 k0 s2
  rename_i KX hKX
  have REST : Hid (∀ (u : World) {v0 v1 v3 v4 v5 v6 v7 v8 v9 v10 v11 v12 v13 : Value}, Below W0.heap.size W0 u → KX { tmps := #[v0, v1, .string ((⟨#[99]⟩ ++ t1) ++ t2), v3, v4, v5, v6, v7, v8, v9, v10, v11, v12, v13], defers := [] } u) := by
    intro u v0 v1 v3 v4 v5 v6 v7 v8 v9 v10 v11 v12 v13 bu
    have FIN : Hid _ := q0.trans (bu.mono q0.size)
    refine hKX _ _ ?_
    clear q0 bu
    clear hcc hcd hce
    go_wp2_with fail
    go_ret
    exact ⟨by rw [HK.out]; rfl, FIN.out⟩
  obtain ⟨w0, hw0⟩ : ∃ w0, w0 = W0.drew := ⟨_, rfl⟩
  have B0 : Hid (Below W0.heap.size W0 w0) := by show Below W0.heap.size W0 w0; rw [hw0]; exact ⟨rfl, rfl, rfl, Nat.le_refl _, fun _ _ => rfl⟩
  have cs0 := HCS.out _ B0.out
  refine wp_regionD (fun u => (Instr.loadAt 32 (.pointer (some ⟨w.heap.size, 0, none⟩))).run Tryz.prog u = .ok (.agg (ob p.1).toArray) u ∧ u.cell? ⟨w.heap.size, 32, none⟩ = some (.int .i64 p.2)) (fun k => decide (12 ≤ k)) (by kernel_rfl) ?_
  rw [← hw0]
  clear hw0 q0
  refine wpAnyD_takeT 0 3 (v := ?vvk1) rfl rfl (by kernel_rfl) (by kernel_rfl) (by kernel_rfl) (by kernel_rfl) (fun _ _ _ h => h) (Or.inl ⟨by rfl, ?hyk1⟩) cs0 ?restk1
  case hyk1 => (intro w hSw; (try dsimp only at hSw); go_simp; try with_reducible rfl)
  simp only [Act.put, List.setIfInBounds_toArray, List.set_cons_zero, List.set_cons_succ]
  refine wpAnyD_takeT 1 4 (v := .agg (ob p.1).toArray) rfl rfl (by kernel_rfl) (by kernel_rfl) (by kernel_rfl) (by kernel_rfl) (fun _ _ _ h => h) (Or.inl ⟨by rfl, ?hyk2⟩) cs0 ?restk2
  case hyk2 => exact fun u hSw => yield_load (p := .pointer (some ⟨w.heap.size, 0, none⟩)) rfl rfl hSw.1
  simp only [Act.put, List.setIfInBounds_toArray, List.set_cons_zero, List.set_cons_succ]
  refine wpAnyD_takeT 5 8 (v := ?vvk3) rfl rfl (by kernel_rfl) (by kernel_rfl) (by kernel_rfl) (by kernel_rfl) (fun _ _ _ h => h) (Or.inl ⟨by rfl, ?hyk3⟩) cs0 ?restk3
  case hyk3 => (intro w hSw; (try dsimp only at hSw); go_simp; try with_reducible rfl)
  simp only [Act.put, List.setIfInBounds_toArray, List.set_cons_zero, List.set_cons_succ]
  refine wpAnyD_takeT 6 9 (v := ?vvk4) rfl rfl (by kernel_rfl) (by kernel_rfl) (by kernel_rfl) (by kernel_rfl) (fun _ _ _ h => h) (Or.inl ⟨by rfl, ?hyk4⟩) cs0 ?restk4
  case hyk4 => (intro w hSw; (try dsimp only at hSw); go_simp; try with_reducible rfl)
  simp only [Act.put, List.setIfInBounds_toArray, List.set_cons_zero, List.set_cons_succ]
  refine wpAnyD_takeT 7 10 (v := ?vvk5) rfl rfl (by kernel_rfl) (by kernel_rfl) (by kernel_rfl) (by kernel_rfl) (fun _ _ _ h => h) (Or.inl ⟨by rfl, ?hyk5⟩) cs0 ?restk5
  case hyk5 => (intro w hSw; (try dsimp only at hSw); go_simp; try with_reducible rfl)
  simp only [Act.put, List.setIfInBounds_toArray, List.set_cons_zero, List.set_cons_succ]
  refine wpAnyD_two 2 8 (by kernel_rfl) rfl rfl (fun KK hK => ?brk6a) (fun KK hK => ?brk6b)
  case brk6a =>
    rw [if_pos (show Region.wanted _ _ = true from rfl)]
    have LC := l5Of_calls p.1 w0 hl hB
    go_wp2_with fail
    refine LC.mono ?_
    rintro e w1 ⟨aO, cO, rfl, q1, oO⟩
    have RO := oO.bs hB
    have B1 : Hid (Below W0.heap.size W0 w1) := B0.out.trans (q1.mono B0.out.size)
    have cs1 := HCS.out _ B1.out
    clear LC oO
    go_wp2_with fail
    refine hK.out _ _ (fun _ => cs1) ?_
    clear hK KK
    refine wpAnyD_two 3 8 (by kernel_rfl) rfl rfl (fun KK hK => ?brk7a) (fun KK hK => ?brk7b)
    case brk7a =>
      rw [if_pos (show Region.wanted _ _ = true from rfl)]
      have kc := conv_bsD RO
      rw [Ht1.out] at kc
      go_wp2_with fail
      clear kc
      refine hK.out _ _ (fun _ => cs1) ?_
      clear hK KK
      refine wpAnyD_two 4 8 (by kernel_rfl) rfl rfl (fun KK hK => ?brk8a) (fun KK hK => ?brk8b)
      case brk8a =>
        rw [if_pos (show Region.wanted _ _ = true from rfl)]
        go_wp2_with fail
        refine hK.out _ _ (fun _ => cs1) ?_
        clear hK KK
        refine wpAnyD_one 8 (by kernel_rfl) rfl (fun KK hK => ?_)
        rw [if_pos (show Region.wanted _ _ = true from rfl)]
        have q2 : Below w1.heap.size w1 (w1.alloc (.cells #[.int .u8 p.2] 5)) := (Below.refl _ _).alloc (Nat.le_refl _) _
        have RL := bs_lit1 w1 p.2 h0 h1
        go_wp2_with fail
        have B2 : Hid (Below W0.heap.size W0 (w1.alloc (.cells #[.int .u8 p.2] 5))) := B1.out.trans (q2.mono B1.out.size)
        have cs2 := HCS.out _ B2.out
        refine hK.out _ _ (fun _ => cs2) ?_
        clear hK KK
        generalize w1.alloc (.cells #[.int .u8 p.2] 5) = w2 at *
        refine wpAnyD_one 9 (by kernel_rfl) rfl (fun KK hK => ?_)
        rw [if_pos (show Region.wanted _ _ = true from rfl)]
        have kc := conv_bsD RL
        rw [Ht2.out] at kc
        go_wp2_with fail
        clear kc
        refine hK.out _ _ (fun _ => cs2) ?_
        clear hK KK
        refine wpAnyD_one 10 (by kernel_rfl) rfl (fun KK hK => ?_)
        rw [if_pos (show Region.wanted _ _ = true from rfl)]
        go_wp2_with fail
        refine hK.out _ _ (fun _ => cs2) ?_
        clear hK KK
        refine wpAnyD_takeT 11 2 (v := ?vvk9) rfl rfl (by kernel_rfl) (by kernel_rfl) (by kernel_rfl) (by kernel_rfl) (fun _ _ _ h => h) (Or.inl ⟨by rfl, ?hyk9⟩) cs2 ?restk9
        case hyk9 => (intro w hSw; (try dsimp only at hSw); go_simp; try with_reducible rfl)
        simp only [Act.put, List.setIfInBounds_toArray, List.set_cons_zero, List.set_cons_succ]
        refine wpAnyD_done (by kernel_rfl) ?_ _
        exact REST.out _ B2.out
      case brk8b =>
        rw [if_pos (show Region.wanted _ _ = true from rfl)]
        have q2 : Below w1.heap.size w1 (w1.alloc (.cells #[.int .u8 p.2] 5)) := (Below.refl _ _).alloc (Nat.le_refl _) _
        have RL := bs_lit1 w1 p.2 h0 h1
        go_wp2_with fail
        have B2 : Hid (Below W0.heap.size W0 (w1.alloc (.cells #[.int .u8 p.2] 5))) := B1.out.trans (q2.mono B1.out.size)
        have cs2 := HCS.out _ B2.out
        refine hK.out _ _ (fun _ => cs2) ?_
        clear hK KK
        generalize w1.alloc (.cells #[.int .u8 p.2] 5) = w2 at *
        refine wpAnyD_two 4 9 (by kernel_rfl) rfl rfl (fun KK hK => ?brk10a) (fun KK hK => ?brk10b)
        case brk10a =>
          rw [if_pos (show Region.wanted _ _ = true from rfl)]
          go_wp2_with fail
          refine hK.out _ _ (fun _ => cs2) ?_
          clear hK KK
          refine wpAnyD_one 9 (by kernel_rfl) rfl (fun KK hK => ?_)
          rw [if_pos (show Region.wanted _ _ = true from rfl)]
          have kc := conv_bsD RL
          rw [Ht2.out] at kc
          go_wp2_with fail
          clear kc
          refine hK.out _ _ (fun _ => cs2) ?_
          clear hK KK
          refine wpAnyD_one 10 (by kernel_rfl) rfl (fun KK hK => ?_)
          rw [if_pos (show Region.wanted _ _ = true from rfl)]
          go_wp2_with fail
          refine hK.out _ _ (fun _ => cs2) ?_
          clear hK KK
          refine wpAnyD_takeT 11 2 (v := ?vvk11) rfl rfl (by kernel_rfl) (by kernel_rfl) (by kernel_rfl) (by kernel_rfl) (fun _ _ _ h => h) (Or.inl ⟨by rfl, ?hyk11⟩) cs2 ?restk11
          case hyk11 => (intro w hSw; (try dsimp only at hSw); go_simp; try with_reducible rfl)
          simp only [Act.put, List.setIfInBounds_toArray, List.set_cons_zero, List.set_cons_succ]
          refine wpAnyD_done (by kernel_rfl) ?_ _
          exact REST.out _ B2.out
        case brk10b =>
          rw [if_pos (show Region.wanted _ _ = true from rfl)]
          have kc := conv_bsD RL
          rw [Ht2.out] at kc
          go_wp2_with fail
          clear kc
          refine hK.out _ _ (fun _ => cs2) ?_
          clear hK KK
          refine wpAnyD_one 4 (by kernel_rfl) rfl (fun KK hK => ?_)
          rw [if_pos (show Region.wanted _ _ = true from rfl)]
          go_wp2_with fail
          refine hK.out _ _ (fun _ => cs2) ?_
          clear hK KK
          refine wpAnyD_one 10 (by kernel_rfl) rfl (fun KK hK => ?_)
          rw [if_pos (show Region.wanted _ _ = true from rfl)]
          go_wp2_with fail
          refine hK.out _ _ (fun _ => cs2) ?_
          clear hK KK
          refine wpAnyD_takeT 11 2 (v := ?vvk12) rfl rfl (by kernel_rfl) (by kernel_rfl) (by kernel_rfl) (by kernel_rfl) (fun _ _ _ h => h) (Or.inl ⟨by rfl, ?hyk12⟩) cs2 ?restk12
          case hyk12 => (intro w hSw; (try dsimp only at hSw); go_simp; try with_reducible rfl)
          simp only [Act.put, List.setIfInBounds_toArray, List.set_cons_zero, List.set_cons_succ]
          refine wpAnyD_done (by kernel_rfl) ?_ _
          exact REST.out _ B2.out
    case brk7b =>
      rw [if_pos (show Region.wanted _ _ = true from rfl)]
      have q2 : Below w1.heap.size w1 (w1.alloc (.cells #[.int .u8 p.2] 5)) := (Below.refl _ _).alloc (Nat.le_refl _) _
      have RL := bs_lit1 w1 p.2 h0 h1
      go_wp2_with fail
      have B2 : Hid (Below W0.heap.size W0 (w1.alloc (.cells #[.int .u8 p.2] 5))) := B1.out.trans (q2.mono B1.out.size)
      have cs2 := HCS.out _ B2.out
      refine hK.out _ _ (fun _ => cs2) ?_
      clear hK KK
      generalize w1.alloc (.cells #[.int .u8 p.2] 5) = w2 at *
      refine wpAnyD_two 3 9 (by kernel_rfl) rfl rfl (fun KK hK => ?brk13a) (fun KK hK => ?brk13b)
      case brk13a =>
        rw [if_pos (show Region.wanted _ _ = true from rfl)]
        have kc := conv_bsD (RO.below q2)
        rw [Ht1.out] at kc
        go_wp2_with fail
        clear kc
        refine hK.out _ _ (fun _ => cs2) ?_
        clear hK KK
        refine wpAnyD_two 4 9 (by kernel_rfl) rfl rfl (fun KK hK => ?brk14a) (fun KK hK => ?brk14b)
        case brk14a =>
          rw [if_pos (show Region.wanted _ _ = true from rfl)]
          go_wp2_with fail
          refine hK.out _ _ (fun _ => cs2) ?_
          clear hK KK
          refine wpAnyD_one 9 (by kernel_rfl) rfl (fun KK hK => ?_)
          rw [if_pos (show Region.wanted _ _ = true from rfl)]
          have kc := conv_bsD RL
          rw [Ht2.out] at kc
          go_wp2_with fail
          clear kc
          refine hK.out _ _ (fun _ => cs2) ?_
          clear hK KK
          refine wpAnyD_one 10 (by kernel_rfl) rfl (fun KK hK => ?_)
          rw [if_pos (show Region.wanted _ _ = true from rfl)]
          go_wp2_with fail
          refine hK.out _ _ (fun _ => cs2) ?_
          clear hK KK
          refine wpAnyD_takeT 11 2 (v := ?vvk15) rfl rfl (by kernel_rfl) (by kernel_rfl) (by kernel_rfl) (by kernel_rfl) (fun _ _ _ h => h) (Or.inl ⟨by rfl, ?hyk15⟩) cs2 ?restk15
          case hyk15 => (intro w hSw; (try dsimp only at hSw); go_simp; try with_reducible rfl)
          simp only [Act.put, List.setIfInBounds_toArray, List.set_cons_zero, List.set_cons_succ]
          refine wpAnyD_done (by kernel_rfl) ?_ _
          exact REST.out _ B2.out
        case brk14b =>
          rw [if_pos (show Region.wanted _ _ = true from rfl)]
          have kc := conv_bsD RL
          rw [Ht2.out] at kc
          go_wp2_with fail
          clear kc
          refine hK.out _ _ (fun _ => cs2) ?_
          clear hK KK
          refine wpAnyD_one 4 (by kernel_rfl) rfl (fun KK hK => ?_)
          rw [if_pos (show Region.wanted _ _ = true from rfl)]
          go_wp2_with fail
          refine hK.out _ _ (fun _ => cs2) ?_
          clear hK KK
          refine wpAnyD_one 10 (by kernel_rfl) rfl (fun KK hK => ?_)
          rw [if_pos (show Region.wanted _ _ = true from rfl)]
          go_wp2_with fail
          refine hK.out _ _ (fun _ => cs2) ?_
          clear hK KK
          refine wpAnyD_takeT 11 2 (v := ?vvk16) rfl rfl (by kernel_rfl) (by kernel_rfl) (by kernel_rfl) (by kernel_rfl) (fun _ _ _ h => h) (Or.inl ⟨by rfl, ?hyk16⟩) cs2 ?restk16
          case hyk16 => (intro w hSw; (try dsimp only at hSw); go_simp; try with_reducible rfl)
          simp only [Act.put, List.setIfInBounds_toArray, List.set_cons_zero, List.set_cons_succ]
          refine wpAnyD_done (by kernel_rfl) ?_ _
          exact REST.out _ B2.out
      case brk13b =>
        rw [if_pos (show Region.wanted _ _ = true from rfl)]
        have kc := conv_bsD RL
        rw [Ht2.out] at kc
        go_wp2_with fail
        clear kc
        refine hK.out _ _ (fun _ => cs2) ?_
        clear hK KK
        refine wpAnyD_one 3 (by kernel_rfl) rfl (fun KK hK => ?_)
        rw [if_pos (show Region.wanted _ _ = true from rfl)]
        have kc := conv_bsD (RO.below q2)
        rw [Ht1.out] at kc
        go_wp2_with fail
        clear kc
        refine hK.out _ _ (fun _ => cs2) ?_
        clear hK KK
        refine wpAnyD_one 4 (by kernel_rfl) rfl (fun KK hK => ?_)
        rw [if_pos (show Region.wanted _ _ = true from rfl)]
        go_wp2_with fail
        refine hK.out _ _ (fun _ => cs2) ?_
        clear hK KK
        refine wpAnyD_one 10 (by kernel_rfl) rfl (fun KK hK => ?_)
        rw [if_pos (show Region.wanted _ _ = true from rfl)]
        go_wp2_with fail
        refine hK.out _ _ (fun _ => cs2) ?_
        clear hK KK
        refine wpAnyD_takeT 11 2 (v := ?vvk17) rfl rfl (by kernel_rfl) (by kernel_rfl) (by kernel_rfl) (by kernel_rfl) (fun _ _ _ h => h) (Or.inl ⟨by rfl, ?hyk17⟩) cs2 ?restk17
        case hyk17 => (intro w hSw; (try dsimp only at hSw); go_simp; try with_reducible rfl)
        simp only [Act.put, List.setIfInBounds_toArray, List.set_cons_zero, List.set_cons_succ]
        refine wpAnyD_done (by kernel_rfl) ?_ _
        exact REST.out _ B2.out
  case brk6b =>
    rw [if_pos (show Region.wanted _ _ = true from rfl)]
    have q1 : Below w0.heap.size w0 (w0.alloc (.cells #[.int .u8 p.2] 5)) := (Below.refl _ _).alloc (Nat.le_refl _) _
    have RL := bs_lit1 w0 p.2 h0 h1
    go_wp2_with fail
    have B1 : Hid (Below W0.heap.size W0 (w0.alloc (.cells #[.int .u8 p.2] 5))) := B0.out.trans (q1.mono B0.out.size)
    have cs1 := HCS.out _ B1.out
    refine hK.out _ _ (fun _ => cs1) ?_
    clear hK KK
    generalize w0.alloc (.cells #[.int .u8 p.2] 5) = w1 at *
    refine wpAnyD_two 2 9 (by kernel_rfl) rfl rfl (fun KK hK => ?brk18a) (fun KK hK => ?brk18b)
    case brk18a =>
      rw [if_pos (show Region.wanted _ _ = true from rfl)]
      have LC := l5Of_calls p.1 w1 hl hB
      go_wp2_with fail
      refine LC.mono ?_
      rintro e w2 ⟨aO, cO, rfl, q2, oO⟩
      have RO := oO.bs hB
      have B2 : Hid (Below W0.heap.size W0 w2) := B1.out.trans (q2.mono B1.out.size)
      have cs2 := HCS.out _ B2.out
      clear LC oO
      go_wp2_with fail
      refine hK.out _ _ (fun _ => cs2) ?_
      clear hK KK
      refine wpAnyD_two 3 9 (by kernel_rfl) rfl rfl (fun KK hK => ?brk19a) (fun KK hK => ?brk19b)
      case brk19a =>
        rw [if_pos (show Region.wanted _ _ = true from rfl)]
        have kc := conv_bsD RO
        rw [Ht1.out] at kc
        go_wp2_with fail
        clear kc
        refine hK.out _ _ (fun _ => cs2) ?_
        clear hK KK
        refine wpAnyD_two 4 9 (by kernel_rfl) rfl rfl (fun KK hK => ?brk20a) (fun KK hK => ?brk20b)
        case brk20a =>
          rw [if_pos (show Region.wanted _ _ = true from rfl)]
          go_wp2_with fail
          refine hK.out _ _ (fun _ => cs2) ?_
          clear hK KK
          refine wpAnyD_one 9 (by kernel_rfl) rfl (fun KK hK => ?_)
          rw [if_pos (show Region.wanted _ _ = true from rfl)]
          have kc := conv_bsD (RL.below q2)
          rw [Ht2.out] at kc
          go_wp2_with fail
          clear kc
          refine hK.out _ _ (fun _ => cs2) ?_
          clear hK KK
          refine wpAnyD_one 10 (by kernel_rfl) rfl (fun KK hK => ?_)
          rw [if_pos (show Region.wanted _ _ = true from rfl)]
          go_wp2_with fail
          refine hK.out _ _ (fun _ => cs2) ?_
          clear hK KK
          refine wpAnyD_takeT 11 2 (v := ?vvk21) rfl rfl (by kernel_rfl) (by kernel_rfl) (by kernel_rfl) (by kernel_rfl) (fun _ _ _ h => h) (Or.inl ⟨by rfl, ?hyk21⟩) cs2 ?restk21
          case hyk21 => (intro w hSw; (try dsimp only at hSw); go_simp; try with_reducible rfl)
          simp only [Act.put, List.setIfInBounds_toArray, List.set_cons_zero, List.set_cons_succ]
          refine wpAnyD_done (by kernel_rfl) ?_ _
          exact REST.out _ B2.out
        case brk20b =>
          rw [if_pos (show Region.wanted _ _ = true from rfl)]
          have kc := conv_bsD (RL.below q2)
          rw [Ht2.out] at kc
          go_wp2_with fail
          clear kc
          refine hK.out _ _ (fun _ => cs2) ?_
          clear hK KK
          refine wpAnyD_one 4 (by kernel_rfl) rfl (fun KK hK => ?_)
          rw [if_pos (show Region.wanted _ _ = true from rfl)]
          go_wp2_with fail
          refine hK.out _ _ (fun _ => cs2) ?_
          clear hK KK
          refine wpAnyD_one 10 (by kernel_rfl) rfl (fun KK hK => ?_)
          rw [if_pos (show Region.wanted _ _ = true from rfl)]
          go_wp2_with fail
          refine hK.out _ _ (fun _ => cs2) ?_
          clear hK KK
          refine wpAnyD_takeT 11 2 (v := ?vvk22) rfl rfl (by kernel_rfl) (by kernel_rfl) (by kernel_rfl) (by kernel_rfl) (fun _ _ _ h => h) (Or.inl ⟨by rfl, ?hyk22⟩) cs2 ?restk22
          case hyk22 => (intro w hSw; (try dsimp only at hSw); go_simp; try with_reducible rfl)
          simp only [Act.put, List.setIfInBounds_toArray, List.set_cons_zero, List.set_cons_succ]
          refine wpAnyD_done (by kernel_rfl) ?_ _
          exact REST.out _ B2.out
      case brk19b =>
        rw [if_pos (show Region.wanted _ _ = true from rfl)]
        have kc := conv_bsD (RL.below q2)
        rw [Ht2.out] at kc
        go_wp2_with fail
        clear kc
        refine hK.out _ _ (fun _ => cs2) ?_
        clear hK KK
        refine wpAnyD_one 3 (by kernel_rfl) rfl (fun KK hK => ?_)
        rw [if_pos (show Region.wanted _ _ = true from rfl)]
        have kc := conv_bsD RO
        rw [Ht1.out] at kc
        go_wp2_with fail
        clear kc
        refine hK.out _ _ (fun _ => cs2) ?_
        clear hK KK
        refine wpAnyD_one 4 (by kernel_rfl) rfl (fun KK hK => ?_)
        rw [if_pos (show Region.wanted _ _ = true from rfl)]
        go_wp2_with fail
        refine hK.out _ _ (fun _ => cs2) ?_
        clear hK KK
        refine wpAnyD_one 10 (by kernel_rfl) rfl (fun KK hK => ?_)
        rw [if_pos (show Region.wanted _ _ = true from rfl)]
        go_wp2_with fail
        refine hK.out _ _ (fun _ => cs2) ?_
        clear hK KK
        refine wpAnyD_takeT 11 2 (v := ?vvk23) rfl rfl (by kernel_rfl) (by kernel_rfl) (by kernel_rfl) (by kernel_rfl) (fun _ _ _ h => h) (Or.inl ⟨by rfl, ?hyk23⟩) cs2 ?restk23
        case hyk23 => (intro w hSw; (try dsimp only at hSw); go_simp; try with_reducible rfl)
        simp only [Act.put, List.setIfInBounds_toArray, List.set_cons_zero, List.set_cons_succ]
        refine wpAnyD_done (by kernel_rfl) ?_ _
        exact REST.out _ B2.out
    case brk18b =>
      rw [if_pos (show Region.wanted _ _ = true from rfl)]
      have kc := conv_bsD RL
      rw [Ht2.out] at kc
      go_wp2_with fail
      clear kc
      refine hK.out _ _ (fun _ => cs1) ?_
      clear hK KK
      refine wpAnyD_one 2 (by kernel_rfl) rfl (fun KK hK => ?_)
      rw [if_pos (show Region.wanted _ _ = true from rfl)]
      have LC := l5Of_calls p.1 w1 hl hB
      go_wp2_with fail
      refine LC.mono ?_
      rintro e w2 ⟨aO, cO, rfl, q2, oO⟩
      have RO := oO.bs hB
      have B2 : Hid (Below W0.heap.size W0 w2) := B1.out.trans (q2.mono B1.out.size)
      have cs2 := HCS.out _ B2.out
      clear LC oO
      go_wp2_with fail
      refine hK.out _ _ (fun _ => cs2) ?_
      clear hK KK
      refine wpAnyD_one 3 (by kernel_rfl) rfl (fun KK hK => ?_)
      rw [if_pos (show Region.wanted _ _ = true from rfl)]
      have kc := conv_bsD RO
      rw [Ht1.out] at kc
      go_wp2_with fail
      clear kc
      refine hK.out _ _ (fun _ => cs2) ?_
      clear hK KK
      refine wpAnyD_one 4 (by kernel_rfl) rfl (fun KK hK => ?_)
      rw [if_pos (show Region.wanted _ _ = true from rfl)]
      go_wp2_with fail
      refine hK.out _ _ (fun _ => cs2) ?_
      clear hK KK
      refine wpAnyD_one 10 (by kernel_rfl) rfl (fun KK hK => ?_)
      rw [if_pos (show Region.wanted _ _ = true from rfl)]
      go_wp2_with fail
      refine hK.out _ _ (fun _ => cs2) ?_
      clear hK KK
      refine wpAnyD_takeT 11 2 (v := ?vvk24) rfl rfl (by kernel_rfl) (by kernel_rfl) (by kernel_rfl) (by kernel_rfl) (fun _ _ _ h => h) (Or.inl ⟨by rfl, ?hyk24⟩) cs2 ?restk24
      case hyk24 => (intro w hSw; (try dsimp only at hSw); go_simp; try with_reducible rfl)
      simp only [Act.put, List.setIfInBounds_toArray, List.set_cons_zero, List.set_cons_succ]
      refine wpAnyD_done (by kernel_rfl) ?_ _
      exact REST.out _ B2.out
end Go.Proofs.YtnohmedccbogkaaGreatDoor

