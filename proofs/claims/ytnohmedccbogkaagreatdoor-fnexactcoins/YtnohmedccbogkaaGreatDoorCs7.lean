import Derived.Test.YtnohmedccbogkaaGreatDoorCs6
import Derived.Test.YtnohmedccbogkaaGreatDoorCs3
import Derived.Maps.OwnSet
namespace Go.Proofs.YtnohmedccbogkaaGreatDoor
open Go.RowKit
set_option linter.unusedVariables false
structure OnlyS (Z : Nat → Prop) (w w' : World) : Prop where
  os : w'.os = w.os
  tape : w'.tape = w.tape
  output : w'.output = w.output
  size : w.heap.size ≤ w'.heap.size
  block : ∀ k, k < w.heap.size → ¬ Z k → w'.heap[k]? = w.heap[k]?
theorem OnlyS.refl (Z : Nat → Prop) (w : World) : OnlyS Z w w := ⟨rfl, rfl, rfl, Nat.le_refl _, fun _ _ _ => rfl⟩
theorem OnlyS.transN {Z Z2 : Nat → Prop} {a b c : World} (h : OnlyS Z a b) (k : OnlyS Z2 b c) (hz : ∀ k, k < a.heap.size → Z2 k → Z k) : OnlyS Z a c :=
  ⟨k.os.trans h.os, k.tape.trans h.tape, k.output.trans h.output, Nat.le_trans h.size k.size, fun i hi hn => (k.block i (Nat.lt_of_lt_of_le hi h.size) (fun z => hn (hz i hi z))).trans (h.block i hi hn)⟩
theorem OnlyS.trans {Z : Nat → Prop} {a b c : World} (h : OnlyS Z a b) (k : OnlyS Z b c) : OnlyS Z a c := h.transN k (fun _ _ z => z)
theorem OnlyS.mono {Z Z2 : Nat → Prop} {a b : World} (h : OnlyS Z a b) (hz : ∀ k, k < a.heap.size → Z k → Z2 k) : OnlyS Z2 a b := ⟨h.os, h.tape, h.output, h.size, fun i hi hn => h.block i hi (fun z => hn (hz i hi z))⟩
theorem OnlyS.ofB {g : Nat} {a b : World} (h : OnlyB g a b) : OnlyS (· = g) a b := ⟨h.os, h.tape, h.output, h.size, fun i hi hn => h.block i hi hn⟩
theorem OnlyS.ofBelow {Z : Nat → Prop} {a b : World} (h : Below a.heap.size a b) : OnlyS Z a b := ⟨h.os, h.tape, h.output, h.size, fun i hi _ => h.block i hi⟩
theorem OnlyS.below {Z : Nat → Prop} {a b : World} {B : Nat} (h : OnlyS Z a b) (hB : B ≤ a.heap.size) (hz : ∀ k, Z k → B ≤ k) : Below B a b := ⟨h.os, h.tape, h.output, h.size, fun i hi => h.block i (by omega) (fun z => by have := hz i z; omega)⟩
theorem OnlyS.ofGrown {r : Option Nat} {a b : World} (h : a.grownBy b r) : OnlyS (fun k => r = some k) a b := ⟨h.os, h.tape, h.output, h.size, fun i hi hn => h.block i hi (fun e => hn e.symm)⟩
theorem Blk.onlyS {Z : Nat → Prop} {w w' : World} {t g : Nat} {xs : List Value} (h : Blk w t g xs) (ho : OnlyS Z w w') (hg : ¬ Z g) : Blk w' t g xs := (ho.block g h.lt hg).trans h
def rb : Option Addr → List Nat
  | some a => [a.block]
  | none => []
def k0 : ByteArray × Value := (strOfNums [], .nilIface)
def kdF (vs : List (ByteArray × Value)) : Nat → List Value := fun i => [.string (vs.getD i k0).1, (vs.getD i k0).2]
def lfI (b : Nat) : Value := .iface 299 (.pointer (some ⟨b, 0, none⟩))
def inI (b : Nat) : Value := .iface 260 (.pointer (some ⟨b, 0, none⟩))
def IRep (w : World) : Tr → List Nat → List (ByteArray × Value) → Prop
  | .leaf id es, F, vs => ∃ b a c, F = b :: rb a ∧ vs = [(strOfNums [], lfI b)] ∧ Blk w 302 b [.int .i64 id, .slice a es.length c] ∧ ORow 93 2 0 w a es.length c (enF es)
  | .node id ks, F, vs => ∃ b a c us G, F = b :: (rb a ++ G) ∧ vs = [(strOfNums [], inI b)] ∧ Blk w 265 b [.int .i64 id, .slice a us.length c] ∧ ORow 276 2 0 w a us.length c (kdF us) ∧ IRep w ks G us
  | .nil, F, vs => F = [] ∧ vs = []
  | .cons s t ks, F, vs => ∃ v us G1 G2, F = G1 ++ G2 ∧ vs = (s, v) :: us ∧ IRep w t G1 [(strOfNums [], v)] ∧ IRep w ks G2 us
theorem orow_rb {e s B : Nat} {w w' : World} {a : Option Addr} {n c : Nat} {f : Nat → List Value} (h : ORow e s B w a n c f) (hk : ∀ k ∈ rb a, w'.heap[k]? = w.heap[k]?) : ORow e s B w' a n c f :=
  h.keep (fun g e => hk g (by subst e; simp [rb]))
theorem IRep.keep {w w' : World} : ∀ {t : Tr} {F : List Nat} {vs : List (ByteArray × Value)}, IRep w t F vs → (∀ k ∈ F, w'.heap[k]? = w.heap[k]?) → IRep w' t F vs
  | .leaf id es, F, vs, h, hk => by
    rw [IRep] at h ⊢
    obtain ⟨b, a, c, rfl, h2, h3, h4⟩ := h
    exact ⟨b, a, c, rfl, h2, (hk b (by simp)).trans h3, orow_rb h4 (fun k hm => hk k (by simp [hm]))⟩
  | .node id ks, F, vs, h, hk => by
    rw [IRep] at h ⊢
    obtain ⟨b, a, c, us, G, rfl, h2, h3, h4, h5⟩ := h
    exact ⟨b, a, c, us, G, rfl, h2, (hk b (by simp)).trans h3, orow_rb h4 (fun k hm => hk k (by simp [hm])), h5.keep (fun k hm => hk k (by simp [hm]))⟩
  | .nil, F, vs, h, hk => by rw [IRep] at h ⊢; exact h
  | .cons s t ks, F, vs, h, hk => by
    rw [IRep] at h ⊢
    obtain ⟨v, us, G1, G2, rfl, h2, h3, h4⟩ := h
    exact ⟨v, us, G1, G2, rfl, h2, h3.keep (fun k hm => hk k (by simp [hm])), h4.keep (fun k hm => hk k (by simp [hm]))⟩
theorem orow_rb_lt {e s B : Nat} {w : World} {a : Option Addr} {n c : Nat} {f : Nat → List Value} (h : ORow e s B w a n c f) : ∀ k ∈ rb a, B ≤ k ∧ k < w.heap.size := by
  intro k hk
  rcases h.2 with ⟨e1, _⟩ | ⟨g', cap, cur, e1, hB, hh, _⟩
  · cases e1; simp [rb] at hk
  · cases e1
    simp [rb] at hk
    subst hk
    exact ⟨hB, (Array.getElem?_eq_some_iff.1 hh).1⟩
theorem IRep.lt {w : World} : ∀ {t : Tr} {F : List Nat} {vs : List (ByteArray × Value)}, IRep w t F vs → ∀ k ∈ F, k < w.heap.size
  | .leaf id es, F, vs, h, k, hk => by
    rw [IRep] at h
    obtain ⟨b, a, c, rfl, h2, h3, h4⟩ := h
    rcases List.mem_cons.1 hk with rfl | hk
    · exact h3.lt
    · exact (orow_rb_lt h4 k hk).2
  | .node id ks, F, vs, h, k, hk => by
    rw [IRep] at h
    obtain ⟨b, a, c, us, G, rfl, h2, h3, h4, h5⟩ := h
    rcases List.mem_cons.1 hk with rfl | hk
    · exact h3.lt
    · rcases List.mem_append.1 hk with hk | hk
      · exact (orow_rb_lt h4 k hk).2
      · exact h5.lt k hk
  | .nil, F, vs, h, k, hk => by rw [IRep] at h; rw [h.1] at hk; simp at hk
  | .cons s t ks, F, vs, h, k, hk => by
    rw [IRep] at h
    obtain ⟨v, us, G1, G2, rfl, h2, h3, h4⟩ := h
    rcases List.mem_append.1 hk with hk | hk
    · exact h3.lt k hk
    · exact h4.lt k hk
theorem IRep.below {w w' : World} {t : Tr} {F : List Nat} {vs : List (ByteArray × Value)} (h : IRep w t F vs) (hb : Below w.heap.size w w') : IRep w' t F vs := h.keep (fun k hk => hb.block k (h.lt k hk))
theorem IRep.onlyS {Z : Nat → Prop} {w w' : World} {t : Tr} {F : List Nat} {vs : List (ByteArray × Value)} (h : IRep w t F vs) (hb : OnlyS Z w w') (hz : ∀ k ∈ F, ¬ Z k) : IRep w' t F vs := h.keep (fun k hk => hb.block k (h.lt k hk) (hz k hk))
theorem IRep.snoc {w : World} {t : Tr} {v : Value} {s : ByteArray} {G : List Nat} (ht : IRep w t G [(strOfNums [], v)]) : ∀ {ts : List (ByteArray × Tr)} {F : List Nat} {vs : List (ByteArray × Value)}, IRep w (consL ts .nil) F vs → IRep w (consL (ts ++ [(s, t)]) .nil) (F ++ G) (vs ++ [(s, v)])
  | [], F, vs, h => by
    rw [consL, IRep] at h
    obtain ⟨rfl, rfl⟩ := h
    show IRep w (.cons s t .nil) _ _
    rw [IRep]
    exact ⟨v, [], G, [], by simp, rfl, ht, by rw [IRep]; exact ⟨rfl, rfl⟩⟩
  | x :: xs, F, vs, h => by
    rw [consL, IRep] at h
    obtain ⟨u, us, G1, G2, rfl, rfl, h3, h4⟩ := h
    show IRep w (.cons x.1 x.2 (consL (xs ++ [(s, t)]) .nil)) _ _
    rw [IRep]
    exact ⟨u, us ++ [(s, v)], G1, G2 ++ G, by simp, rfl, h3, IRep.snoc ht h4⟩
theorem elKd : ElT 263 276 2 (.agg #[.string (strOfNums []), .nilIface]) 32 := ⟨Tryz.underlying263, by kernel_rfl, rfl, by omega⟩
theorem kdF_app (es : List (ByteArray × Value)) (x : ByteArray × Value) (i : Nat) (hi : i < es.length + 1) : updR (kdF es) es.length [.string x.1, x.2] i = kdF (es ++ [x]) i := by
  by_cases e : i = es.length
  · subst e
    rw [updR_same]
    simp [kdF]
  · rw [updR_lt _ _ (by omega)]
    simp [kdF, List.getD, List.getElem?_append_left (show i < es.length by omega)]
def SetI (w : World) (m : Nat) (seen : List Int) : Prop := ∃ D : DataW Nat, w.ownsMap Tryz.prog 3 unitElem m seen.length D ∧ ∀ i : Int, Maps.has D (.int .i64 i) = seen.contains i
end Go.Proofs.YtnohmedccbogkaaGreatDoor

namespace Go.Proofs.YtnohmedccbogkaaGreatDoor
open Go.RowKit
set_option linter.unusedVariables false
structure PgW (P : Pg) (N : Nat) : Prop where
  ok : ∀ t, P.ok t = true → 0 ≤ t ∧ t < (N : Int)
  byte : ∀ t, IsB (P.bd t)
  len : ∀ t, (P.bd t).length ≤ 1048576
  le : N ≤ 1024
def VwOk (P : Pg) (vs : Value) (g : Nat) (w0 : World) : Prop := ∀ u, OnlyB g w0 u → ∀ t, Calls Tryz.prog 179 #[.agg #[vs], .int .i64 t] u fun e w' => ∃ a c, e = .returned (.tuple #[.int .i64 (P.kd t), .slice a (P.bd t).length c, .bool (P.ok t)]) ∧ Below u.heap.size u w' ∧ Own u.heap.size w' a (P.bd t).length c (P.bd t)
structure RdQ (P : Pg) (B0 g sb N : Nat) (rt : Int) (f steps : Nat) (id : Int) (w : World) (ns : List NdK) (nv : Nat → NdV) (na : Option Addr) (seen : List Int) (tall : Int) (w' : World) (p : Int) (ms : List NdK) (nv' : Nat → NdV) (na' : Option Addr) (nc' : Nat) (seen' : List Int) (tall' : Int) (bad' : Bool) : Prop where
  fr : Fr3 g sb na w w'
  st : TSt B0 g sb N rt w' (ns ++ ms) nv' na' nc' seen' tall' bad'
  na : na' = na ∨ ∃ k, na' = some ⟨k, 0, none⟩ ∧ w.heap.size ≤ k
  old : ∀ i, i < ns.length → nv' i = nv i
  new : ∀ i k, ns.length ≤ i → i < (ns ++ ms).length → (nv' i).da = some ⟨k, 0, none⟩ → w.heap.size ≤ k
  le : (ns ++ ms).length + steps ≤ seen'.length
  le2 : seen.length ≤ seen'.length
  res : (bad' = false ∧ ∃ T, rdT P f steps ⟨seen, tall⟩ id = some (T, ⟨seen', tall'⟩) ∧ isT T = true ∧ Rep (ns ++ ms) T true [p] []) ∨ (bad' = true ∧ rdT P f steps ⟨seen, tall⟩ id = none)
def RdP (P : Pg) (B0 g sb N : Nat) (rt : Int) (f steps : Nat) (id : Int) (w : World) (ns : List NdK) (nv : Nat → NdV) (na : Option Addr) (seen : List Int) (tall : Int) (e : Ending) (w' : World) : Prop := ∃ p ms nv' na' nc' seen' tall' bad', e = .returned (.int .i64 p) ∧ RdQ P B0 g sb N rt f steps id w ns nv na seen tall w' p ms nv' na' nc' seen' tall' bad'
theorem rdP_mk {P : Pg} {B0 g sb N : Nat} {rt : Int} {f steps : Nat} {id : Int} {w : World} {ns : List NdK} {nv : Nat → NdV} {na : Option Addr} {seen : List Int} {tall : Int} {w' : World} {p : Int} {ms : List NdK} {nv' : Nat → NdV} {na' : Option Addr} {nc' : Nat} {seen' : List Int} {tall' : Int} {bad' : Bool} (h : RdQ P B0 g sb N rt f steps id w ns nv na seen tall w' p ms nv' na' nc' seen' tall' bad') : RdP P B0 g sb N rt f steps id w ns nv na seen tall (.returned (.int .i64 p)) w' := ⟨_, _, _, _, _, _, _, _, rfl, h⟩
theorem rd_fail {P : Pg} {B0 g sb N : Nat} {rt : Int} {f steps : Nat} {id : Int} {w w1 w2 : World} {ns : List NdK} {nv : Nat → NdV} {na : Option Addr} {nc : Nat} {seen seen' : List Int} {tall tall' : Int} (p : Int) (fr : Fr3 g sb na w w2) (st : TSt B0 g sb N rt w2 ns nv na nc seen' tall' true) (hl : ns.length + steps ≤ seen.length) (hs : seen.length ≤ seen'.length) (hno : rdT P f steps ⟨seen, tall⟩ id = none) :
    RdQ P B0 g sb N rt f steps id w ns nv na seen tall w2 p [] nv na nc seen' tall' true :=
  ⟨fr, by rw [List.append_nil]; exact st, Or.inl rfl, fun _ _ => rfl, fun i k h1 h2 => by rw [List.append_nil] at h2; omega, by rw [List.append_nil]; omega, hs, Or.inr ⟨rfl, hno⟩⟩
theorem rdT_no {P : Pg} {f : Nat} {steps : Int} {st : St} {id : Int} (h : pgOk P st id = false) : rdT P (f + 1) steps st id = none := by rw [rdT, if_neg (by rw [h]; decide)]
def RdC (P : Pg) (N B0 g sb : Nat) (rt : Int) (vs : Value) (w0 : World) (f : Nat) : Prop := ∀ (steps : Nat) (id : Int) (ns : List NdK) (nv : Nat → NdV) (na : Option Addr) (nc : Nat) (seen : List Int) (tall : Int) (w : World), OnlyB g w0 w → TSt B0 g sb N rt w ns nv na nc seen tall false → N < f + seen.length → ns.length + steps ≤ seen.length →
    Calls Tryz.prog 180 #[.pointer (some ⟨g, 0, none⟩), .agg #[vs], .int .i64 id, .int .i64 (steps : Nat)] w fun e w' => RdP P B0 g sb N rt f steps id w ns nv na seen tall e w'
set_option maxHeartbeats 4000000 in
set_option maxRecDepth 100000 in
theorem read_bad (P : Pg) (N B0 g sb : Nat) (rt : Int) (vs : Value) (w0 : World) (PW : PgW P N) (HV : VwOk P vs g w0) (hB0 : w0.heap.size ≤ B0) (f : Nat) (steps : Nat) (id : Int) (ns : List NdK) (nv : Nat → NdV) (na : Option Addr) (nc : Nat) (seen : List Int) (tall : Int) (w : World) (hw : OnlyB g w0 w) (st : TSt B0 g sb N rt w ns nv na nc seen tall false) (hl : ns.length + steps ≤ seen.length) (hbad : pgOk P ⟨seen, tall⟩ id = false) :
    Calls Tryz.prog 180 #[.pointer (some ⟨g, 0, none⟩), .agg #[vs], .int .i64 id, .int .i64 (steps : Nat)] w fun e w' => RdP P B0 g sb N rt (f + 1) steps id w ns nv na seen tall e w' := by
  have hNle := PW.le
  have hsl := st.ok.le
  have q0 : Below w.heap.size w (w.alloc (Obj.cells #[vs] 249)) := (Below.refl _ _).alloc (Nat.le_refl _) _
  have kV := blk_new w 249 #[vs]
  have st0 := st.belowT q0
  have f0 : Fr3 g sb na w (w.alloc (Obj.cells #[vs] 249)) := Fr3.ofBelow q0
  have z0 : (w.alloc (Obj.cells #[vs] 249)).heap.size = w.heap.size + 1 := by simp
  have sV : (Tryz.prog.info? 249).map (·.size) = some (#[vs] : Array Value).size := by kernel_rfl
  go_enter Tryz.func180, Tryz.ntmps180
  go_upto_region 1 with fail
  change Code.wp _ _ _ _ (w.alloc (Obj.cells #[vs] 249))
  generalize w.alloc (Obj.cells #[vs] 249) = W at *
  have hz0 : w.heap.size < W.heap.size := by omega
  clear z0
  have hW : OnlyB g w0 W := f0.onlyG st hB0 hw
  have PGC := HV W hW id
  have hIB := PW.byte id
  have hbl := PW.len id
  have hokr := PW.ok id
  have kV' : Blk W 249 w.heap.size [vs] := kV
  clear kV HV
  have PY : Hid (¬ (P.ok id = true ∧ 2 ≤ id ∧ id ∉ seen ∧ (P.kd id = 2 ∨ P.kd id = 3))) := fun h => by rw [pgOk_iff.2 h] at hbad; cases hbad
  have RNB := rdT_no (P := P) (f := f) (steps := (steps : Nat)) hbad
  generalize hokd : P.ok id = okb at *
  generalize hkd : P.kd id = kd at *
  generalize hbd : P.bd id = bd at *
  clear hokd hkd hbd
  generalize hbn : bd.length = bn at *
  go_wp2_with (refine wpList_load_row rfl 249 _ rfl w.heap.size rfl 249 #[vs] (0, 0) _ kV' Tryz.underlying249 rfl sV ?_)
  refine PGC.mono ?_
  rintro e w1 ⟨a1, c1, rfl, b1, o1⟩
  have st1 := st0.belowT b1
  have f1 : Fr3 g sb na w w1 := f0.trans (Fr3.ofBelow b1) (Or.inl rfl)
  have kV1 := kV'.below b1
  have bs1 := o1.bs hIB
  have cT4 : w1.cell? ⟨g, 4, none⟩ = some (.bool false) := st1.blk.cell 4
  have fT4 := st1.blk.free 4
  have cT2 : w1.cell? ⟨g, 2, none⟩ = some (.slice (some ⟨sb, 0, none⟩) N N) := st1.blk.cell 2
  have hz1 : W.heap.size ≤ w1.heap.size := b1.size
  have H1 : Hid _ := And.intro st1 (And.intro f1 (And.intro kV1 (And.intro bs1 o1)))
  clear PGC st1 f1 kV1 bs1 o1 b1 st0 f0 kV' q0
  have setB : (trc na ns.length nc rt sb N tall false).set 4 (.bool true) = trc na ns.length nc rt sb N tall true := rfl
  have BAD : Hid (∀ p : Int, RdQ P B0 g sb N rt (f + 1) steps id w ns nv na seen tall (w1.setCell ⟨g, 4, none⟩ (.bool true)) p [] nv na nc seen tall true) := fun p =>
    rd_fail (w1 := w1) p (H1.out.2.1.trans (Fr3.only (onlyB_setCell w1 g 4 (.bool true)) (Or.inl rfl)) (Or.inl rfl)) (H1.out.1.set 4 (.bool true) setB) hl (Nat.le_refl _) RNB
  clear setB
  cases okb with
  | false =>
    have B1 := BAD.out (-1)
    have HB1 : Hid _ := B1
    clear B1 BAD
    go_wp2_with fail
    go_ret
    exact rdP_mk HB1.out
  | true =>
  obtain ⟨hid0, hidN⟩ := hokr rfl
  obtain ⟨i, rfl⟩ := Int.eq_ofNat_of_zero_le hid0
  have hiN : i < N := by omega
  by_cases h2 : (i : Int) < 2
  · have B1 := BAD.out (-1)
    have HB1 : Hid _ := B1
    clear B1 BAD
    go_wp2_with fail
    go_ret
    exact rdP_mk HB1.out
  have hcS : w1.cell? ⟨sb, i, none⟩ = some (.bool (seen.contains (i : Int))) := by
    obtain ⟨g', e1, _, _, _, hc⟩ := H1.out.1.mks.at_ (by omega)
    cases e1
    rw [hc i hiN, mkB_get _ _ _ hiN]
  have hfS : w1.frozen? ⟨sb, i, none⟩ = false := H1.out.1.mks.free i
  have h2' : 2 ≤ (i : Int) := by omega
  cases hsc : seen.contains (i : Int) with
  | true =>
    rw [hsc] at hcS
    have B1 := BAD.out (-1)
    have HB1 : Hid _ := B1
    clear B1 BAD hsc
    go_wp2_with fail
    go_ret
    exact rdP_mk HB1.out
  | false =>
  rw [hsc] at hcS
  have hns : (i : Int) ∉ seen := fun hm => by rw [List.contains_iff_mem.2 hm] at hsc; cases hsc
  clear hsc
  by_cases hk23 : kd = 2 ∨ kd = 3
  case neg =>
    have hk2 : ¬ kd = 2 := fun e => hk23 (Or.inl e)
    have hk3 : ¬ kd = 3 := fun e => hk23 (Or.inr e)
    have t2 : (kd != 2) = true := by simp [hk2]
    have t3 : (kd != 3) = true := by simp [hk3]
    have B1 := BAD.out (-1)
    have HB1 : Hid _ := B1
    clear B1 BAD hk2 hk3
    go_wp2_with fail
    go_ret
    exact rdP_mk HB1.out
  case pos => exact absurd ⟨rfl, h2', hns, hk23⟩ PY.out
end Go.Proofs.YtnohmedccbogkaaGreatDoor

namespace Go.Proofs.YtnohmedccbogkaaGreatDoor
open Go.RowKit
set_option linter.unusedVariables false
set_option maxHeartbeats 4000000 in
set_option maxRecDepth 100000 in
theorem read_leaf (P : Pg) (N B0 g sb : Nat) (rt : Int) (vs : Value) (w0 : World) (PW : PgW P N) (HV : VwOk P vs g w0) (hB0 : w0.heap.size ≤ B0) (f : Nat) (steps : Nat) (id : Int) (ns : List NdK) (nv : Nat → NdV) (na : Option Addr) (nc : Nat) (seen : List Int) (tall : Int) (w : World) (hw : OnlyB g w0 w) (st : TSt B0 g sb N rt w ns nv na nc seen tall false) (hl : ns.length + steps ≤ seen.length) (hok : P.ok id = true) (h2 : 2 ≤ id) (hns : id ∉ seen) (hkd : P.kd id = 2) :
    Calls Tryz.prog 180 #[.pointer (some ⟨g, 0, none⟩), .agg #[vs], .int .i64 id, .int .i64 (steps : Nat)] w fun e w' => RdP P B0 g sb N rt (f + 1) steps id w ns nv na seen tall e w' := by
  have hNle := PW.le
  have hsl := st.ok.le
  have q0 : Below w.heap.size w (w.alloc (Obj.cells #[vs] 249)) := (Below.refl _ _).alloc (Nat.le_refl _) _
  have kV := blk_new w 249 #[vs]
  have st0 := st.belowT q0
  have f0 : Fr3 g sb na w (w.alloc (Obj.cells #[vs] 249)) := Fr3.ofBelow q0
  have z0 : (w.alloc (Obj.cells #[vs] 249)).heap.size = w.heap.size + 1 := by simp
  have sV : (Tryz.prog.info? 249).map (·.size) = some (#[vs] : Array Value).size := by kernel_rfl
  go_enter Tryz.func180, Tryz.ntmps180
  go_upto_region 1 with fail
  change Code.wp _ _ _ _ (w.alloc (Obj.cells #[vs] 249))
  generalize w.alloc (Obj.cells #[vs] 249) = W at *
  have hz0 : w.heap.size < W.heap.size := by omega
  clear z0
  have hW : OnlyB g w0 W := f0.onlyG st hB0 hw
  have PGC := HV W hW id
  have hIB := PW.byte id
  have hbl := PW.len id
  have hokr := PW.ok id
  have kV' : Blk W 249 w.heap.size [vs] := kV
  clear kV HV
  obtain ⟨hid0, hidN⟩ := hokr hok
  have HRT : Hid (rdT P (f + 1) steps ⟨seen, tall⟩ id = (if tall < 0 ∨ tall = (steps : Nat) then (lfP (P.bd id)).bind fun es => if es.isEmpty then none else some (.leaf id es, ⟨id :: seen, (steps : Nat)⟩) else none)) := by
    show rdT P (f + 1) steps ⟨seen, tall⟩ id = _
    rw [rdT, if_pos (pgOk_iff.2 ⟨hok, h2, hns, Or.inl hkd⟩), if_pos hkd]
  rw [hok, hkd] at PGC
  clear hokr hok hkd
  obtain ⟨i, rfl⟩ := Int.eq_ofNat_of_zero_le hid0
  have hiN : i < N := by omega
  generalize hbd : P.bd (i : Int) = bd at *
  clear hbd
  generalize hbn : bd.length = bn at *
  go_wp2_with (refine wpList_load_row rfl 249 _ rfl w.heap.size rfl 249 #[vs] (0, 0) _ kV' Tryz.underlying249 rfl sV ?_)
  refine PGC.mono ?_
  rintro e w1 ⟨a1, c1, rfl, b1, o1⟩
  have st1 := st0.belowT b1
  have f1 : Fr3 g sb na w w1 := f0.trans (Fr3.ofBelow b1) (Or.inl rfl)
  have kV1 := kV'.below b1
  have bs1 := o1.bs hIB
  have cT2 : w1.cell? ⟨g, 2, none⟩ = some (.slice (some ⟨sb, 0, none⟩) N N) := st1.blk.cell 2
  have hz1 : W.heap.size ≤ w1.heap.size := b1.size
  have H1 : Hid _ := And.intro st1 (And.intro f1 (And.intro kV1 (And.intro bs1 o1)))
  clear PGC st1 f1 kV1 bs1 o1 b1 st0 f0 kV' q0
  have hcS : w1.cell? ⟨sb, i, none⟩ = some (.bool false) := by
    obtain ⟨g', e1, _, _, _, hc⟩ := H1.out.1.mks.at_ (by omega)
    cases e1
    rw [hc i hiN, mkB_get _ _ _ hiN]
    cases hsc : seen.contains (i : Int) with
    | false => rfl
    | true => exact absurd (List.contains_iff_mem.1 hsc) hns
  have hfS : w1.frozen? ⟨sb, i, none⟩ = false := H1.out.1.mks.free i
  have ho2 := onlyB_setCell w1 sb i (.bool true)
  have st2 := H1.out.1.mark hiN hns
  have f2 : Fr3 g sb na w (w1.setCell ⟨sb, i, none⟩ (.bool true)) := H1.out.2.1.trans (Fr3.only ho2 (Or.inr (Or.inl rfl))) (Or.inl rfl)
  obtain ⟨_, curS, hcurS⟩ := H1.out.1.mks.blk
  have kp2 : ∀ t, 4 ≠ t → KeepT t w1 (w1.setCell ⟨sb, i, none⟩ (.bool true)) := fun t ht => keepT_onlyC ho2 hcurS ht
  have kV2 := H1.out.2.2.1.keepT (kp2 _ (by decide))
  have o2 : Own W.heap.size (w1.setCell ⟨sb, i, none⟩ (.bool true)) a1 bn c1 bd := ownsRow_keepT H1.out.2.2.2.2 (kp2 _ (by decide))
  have bs2 := o2.bs hIB
  have hz2 : w1.heap.size ≤ (w1.setCell ⟨sb, i, none⟩ (.bool true)).heap.size := ho2.size
  have LF := l3Leaf_calls a1 bn c1 bd _ bs2 (by omega)
  have H2 : Hid _ := And.intro st2 (And.intro f2 (And.intro kV2 bs2))
  clear H1 st2 f2 kV2 o2 bs2 kp2 hcurS ho2
  go_upto_region 6 with fail
  clear cT2 hcS hfS
  generalize w1.setCell ⟨sb, i, none⟩ (.bool true) = W2 at *
  go_wp2_with fail
  refine LF.mono ?_
  rintro e w3 ⟨v3, K3, ok3, rfl, b3, O3, hres⟩
  have HRES : Hid _ := hres
  clear hres LF
  have st3 := H2.out.1.belowT b3
  have f3 : Fr3 g sb na w w3 := H2.out.2.1.trans (Fr3.ofBelow b3) (Or.inl rfl)
  have q3 : Below w3.heap.size w3 (w3.alloc (Obj.cells (ndc v3 K3).toArray 257)) := (Below.refl _ _).alloc (Nat.le_refl _) _
  have kN := blk_new w3 257 (ndc v3 K3).toArray
  have st4 := st3.belowT q3
  have f4 : Fr3 g sb na w (w3.alloc (Obj.cells (ndc v3 K3).toArray 257)) := f3.trans (Fr3.ofBelow q3) (Or.inl rfl)
  have O4 := O3.below q3
  have hna : na ≠ some ⟨w3.heap.size, 0, none⟩ := fun e => by
    have hh := st3.nodes
    rw [e] at hh
    obtain ⟨_, cur, hc⟩ := hh.blk
    have := (Array.getElem?_eq_some_iff.1 hc).1
    omega
  have hzz : W2.heap.size ≤ w3.heap.size := b3.size
  clear H2 st3 f3 q3 b3 O3
  go_upto_region 7 with (refine wpList_storeNew rfl 257 _ _ rfl w3 (ndc nilV nd0).toArray (ndc v3 K3).toArray 257 rfl rfl sizeNd rfl (ndc_all _ _) ?_)
  change Code.wp _ _ _ _ (w3.alloc (Obj.cells (ndc v3 K3).toArray 257))
  generalize w3.alloc (Obj.cells (ndc v3 K3).toArray 257) = W4 at *
  have kN4 : Blk W4 257 w3.heap.size (ndc v3 K3) := kN
  clear kN
  generalize w3.heap.size = nb at *
  have cT3 : W4.cell? ⟨g, 3, none⟩ = some (.int .i64 tall) := st4.blk.cell 3
  have fT3 := st4.blk.free 3
  have cT4 : W4.cell? ⟨g, 4, none⟩ = some (.bool false) := st4.blk.cell 4
  have fT4 := st4.blk.free 4
  have cN4 : W4.cell? ⟨nb, 4, none⟩ = some (.slice v3.da K3.kids.length v3.dc) := kN4.cell 4
  have cN0 : W4.cell? ⟨nb, 0, none⟩ = some (.int .i64 K3.page) := kN4.cell 0
  have fN0 := kN4.free 0
  have H4 : Hid _ := And.intro st4 (And.intro f4 (And.intro O4 (And.intro kN4 hna)))
  clear st4 f4 O4 kN4 hna
  have hlc : ns.length + steps ≤ ((i : Int) :: seen).length := by rw [List.length_cons]; omega
  have hsc2 : seen.length ≤ ((i : Int) :: seen).length := by rw [List.length_cons]; omega
  have HL : Hid _ := And.intro hlc hsc2
  clear hlc hsc2
  have BAD1 : Hid (∀ p, rdT P (f + 1) steps ⟨seen, tall⟩ (i : Int) = none → RdQ P B0 g sb N rt (f + 1) steps (i : Int) w ns nv na seen tall (W4.setCell ⟨g, 4, none⟩ (.bool true)) p [] nv na nc ((i : Int) :: seen) tall true) := fun p hp =>
    rd_fail (w1 := W4) p (H4.out.2.1.trans (Fr3.only (onlyB_setCell W4 g 4 (.bool true)) (Or.inl rfl)) (Or.inl rfl)) (H4.out.1.set 4 (.bool true) rfl) hl HL.out.2 hp
  have BAD2 : Hid (∀ p, rdT P (f + 1) steps ⟨seen, tall⟩ (i : Int) = none → RdQ P B0 g sb N rt (f + 1) steps (i : Int) w ns nv na seen tall ((W4.setCell ⟨g, 4, none⟩ (.bool true)).setCell ⟨g, 4, none⟩ (.bool true)) p [] nv na nc ((i : Int) :: seen) tall true) := fun p hp =>
    rd_fail (w1 := W4) p ((H4.out.2.1.trans (Fr3.only (onlyB_setCell W4 g 4 (.bool true)) (Or.inl rfl)) (Or.inl rfl)).trans (Fr3.only (onlyB_setCell (W4.setCell ⟨g, 4, none⟩ (.bool true)) g 4 (.bool true)) (Or.inl rfl)) (Or.inl rfl)) ((H4.out.1.set 4 (.bool true) rfl).set 4 (.bool true) rfl) hl HL.out.2 hp
  by_cases htl : 0 ≤ tall ∧ ¬ tall = (steps : Nat)
  · have ht0 : 0 ≤ tall := htl.1
    have htn : (tall != (steps : Nat)) = true := by simp [htl.2]
    have hno : rdT P (f + 1) steps ⟨seen, tall⟩ (i : Int) = none := by rw [HRT.out, if_neg (by omega)]
    have HB1 : Hid _ := BAD2.out (-1) hno
    clear BAD1 BAD2 hno
    cases ok3 with
    | false =>
      go_wp2_with fail
      go_ret
      exact rdP_mk HB1.out
    | true =>
      go_wp2_with fail
      go_ret
      exact rdP_mk HB1.out
  have htl' : tall < 0 ∨ tall = (steps : Nat) := by omega
  have hnb : Hid (tall < 0 ∨ tall = (steps : Nat)) := htl'
  rcases HRES.out with ⟨hok, es, hes, hne, hK⟩ | ⟨hok, hes⟩
  · subst hok
    have hyes : rdT P (f + 1) steps ⟨seen, tall⟩ (i : Int) = some (.leaf (i : Int) es, ⟨(i : Int) :: seen, (steps : Nat)⟩) := by
      rw [HRT.out, if_pos hnb.out, hes]
      show (if es.isEmpty = true then none else some _) = _
      rw [if_neg (by simpa using hne)]
    have HY : Hid _ := hyes
    clear hyes BAD1 BAD2 HRT HRES htl
    subst hK
    have hkl : (entK es).kids.length = 0 := rfl
    rw [hkl] at cN4
    have htS : (trc na ns.length nc rt sb N tall false).set 3 (.int .i64 (steps : Nat)) = trc na ns.length nc rt sb N (steps : Nat) false := rfl
    have oN := onlyB_setCell (W4.setCell ⟨g, 3, none⟩ (.int .i64 (steps : Nat))) nb 0 (.int .i64 (i : Int))
    have hgn : g ≠ nb := fun e => by
      subst e
      have h1 := H4.out.1.blk
      have h2 := H4.out.2.2.2.1
      unfold Blk at h1 h2
      rw [h1] at h2
      cases h2
    have oG := onlyB_setCell W4 g 3 (.int .i64 (steps : Nat))
    have kN5 := (H4.out.2.2.2.1.only oG (Ne.symm hgn)).set 0 (.int .i64 (i : Int))
    obtain ⟨Kn, hKn⟩ : ∃ K : NdK, K = ⟨(i : Int), true, es.map (fun x => x.1), es.map (fun x => x.2), [], []⟩ := ⟨_, rfl⟩
    have eN : (ndc v3 (entK es)).set 0 (.int .i64 (i : Int)) = ndc v3 Kn := by rw [hKn]; rfl
    rw [eN] at kN5
    have st5 := (H4.out.1.set 3 (.int .i64 (steps : Nat)) htS).other (xs := []) oN ⟨_, H4.out.2.2.2.1.only oG (Ne.symm hgn)⟩ (by decide) (by decide) (Or.inr H4.out.2.2.2.2) (by decide) (Or.inl (by decide))
    have kpt : ∀ t, 207 ≠ t → 257 ≠ t → KeepT t W4 ((W4.setCell ⟨g, 3, none⟩ (.int .i64 (steps : Nat))).setCell ⟨nb, 0, none⟩ (.int .i64 (i : Int))) := fun t h1 h2 => (keepT_only oG H4.out.1.blk h1).trans (keepT_only oN (H4.out.2.2.2.1.only oG (Ne.symm hgn)) h2)
    have O5 : ONd W2.heap.size ((W4.setCell ⟨g, 3, none⟩ (.int .i64 (steps : Nat))).setCell ⟨nb, 0, none⟩ (.int .i64 (i : Int))) v3 Kn := by
      have OO := H4.out.2.2.1.keep (kpt _ (by decide) (by decide)) (kpt _ (by decide) (by decide))
      rw [hKn]
      exact ⟨OO.keys, OO.vals, OO.kids, OO.signs⟩
    have f5 := (H4.out.2.1.trans (Fr3.only oG (Or.inl rfl)) (Or.inl rfl)).fresh oN (by omega)
    have H5 : Hid _ := And.intro st5 (And.intro f5 (And.intro O5 kN5))
    have cN4' : ((W4.setCell ⟨g, 3, none⟩ (.int .i64 (steps : Nat))).setCell ⟨nb, 0, none⟩ (.int .i64 (i : Int))).cell? ⟨nb, 4, none⟩ = some (.slice v3.da 0 v3.dc) := (kN5.cell 4).trans (by rw [hKn]; rfl)
    have HKN : Hid _ := hKn
    clear hKn
    have hHL := HL.out.1
    have hsk := H4.out.1.ok.le
    have hB4 : B0 ≤ W4.heap.size := H4.out.1.gB
    have hgW : g < W4.heap.size := H4.out.1.blk.lt
    have hkd : Hid (∀ k, v3.da = some ⟨k, 0, none⟩ → w.heap.size ≤ k) := fun k e => by
      have h5 := O5.kids
      rw [e] at h5
      have := h5.blk.1
      omega
    have HNA : Hid _ := H4.out.2.2.2.2
    clear st5 f5 O5 kN5 kpt oN oG eN htS hgn H4 hkl
    rcases htl' with htl' | htl'
    · go_upto_region 17 with fail
      generalize (W4.setCell ⟨g, 3, none⟩ (.int .i64 (steps : Nat))).setCell ⟨nb, 0, none⟩ (.int .i64 (i : Int)) = W5 at *
      clear cT3 fT3 cT4 fT4 cN4 cN0 fN0
      go_wp2_with fail
      go_loopw [14] (fun x wr => x = .int .i64 0 ∧ wr = W5) (fun _ _ => 0)
      case atStart => exact ⟨rfl, rfl⟩
      case round =>
        obtain ⟨rfl, hwr⟩ := hrel
        obtain rfl := hwr.symm
        clear hwr
        go_upto_region 21 with fail
        clear cN4'
        have drp : Below W5.heap.size W5 W5.drew := ⟨rfl, rfl, rfl, Nat.le_refl _, fun _ _ => rfl⟩
        have std := H5.out.1.belowT drp
        have kNd := H5.out.2.2.2.below drp
        have Od := H5.out.2.2.1.below drp
        have KEY : Hid (∀ u : World, Blk u 257 nb (ndc v3 Kn) → (Instr.loadAt 257 (.pointer (some ⟨nb, 0, none⟩))).run Tryz.prog u = .ok (.agg (ndc v3 Kn).toArray) u) := fun u hu => by
          simp only [Instr.loadAt, Instr.sureAddr, Sem.run_bind, Sem.run_pure, Result.andThen]
          exact run_loadVar_row u nb 257 257 (ndc v3 Kn).toArray (0, 0) _ hu Tryz.underlying257 rfl sizeNd
        have fd : Fr3 g sb na w W5.drew := H5.out.2.1.trans (Fr3.ofBelow (na := na) drp) (Or.inl rfl)
        refine wp_regionD (fun u => u.cell? ⟨g, 0, none⟩ = some (.slice na ns.length nc) ∧ (Instr.loadAt 257 (.pointer (some ⟨nb, 0, none⟩))).run Tryz.prog u = .ok (.agg (ndc v3 Kn).toArray) u) (fun k => decide (8 ≤ k)) (by kernel_rfl) ?_
        generalize W5.drew = WDp at *
        have cs : WDp.cell? ⟨g, 0, none⟩ = some (.slice na ns.length nc) ∧ (Instr.loadAt 257 (.pointer (some ⟨nb, 0, none⟩))).run Tryz.prog WDp = .ok (.agg (ndc v3 Kn).toArray) WDp := ⟨std.blk.cell 0, KEY.out _ kNd⟩
        have q7 : Below WDp.heap.size WDp (WDp.alloc (Obj.cells (ndc v3 Kn).toArray 257)) := (Below.refl _ _).alloc (Nat.le_refl _) _
        have cs7 : (WDp.alloc (Obj.cells (ndc v3 Kn).toArray 257)).cell? ⟨g, 0, none⟩ = some (.slice na ns.length nc) ∧ (Instr.loadAt 257 (.pointer (some ⟨nb, 0, none⟩))).run Tryz.prog (WDp.alloc (Obj.cells (ndc v3 Kn).toArray 257)) = .ok (.agg (ndc v3 Kn).toArray) (WDp.alloc (Obj.cells (ndc v3 Kn).toArray 257)) := ⟨(std.belowT q7).blk.cell 0, KEY.out _ (kNd.below q7)⟩
        have hBd : B0 ≤ WDp.heap.size := std.gB
        have HSd : Hid _ := And.intro std (And.intro fd Od)
        have HKD : Hid (∀ u : World, Blk u 257 nb (ndc v3 Kn) → (Instr.loadAt 257 (.pointer (some ⟨nb, 0, none⟩))).run Tryz.prog u = .ok (.agg (ndc v3 Kn).toArray) u) := KEY
        have HK7 : Hid _ := And.intro (kNd.below q7) q7
        clear std fd Od kNd q7 KEY drp
        refine wpAnyD_takeT 0 129 (v := ?vvp0) rfl rfl (by kernel_rfl) (by kernel_rfl) (by kernel_rfl) (by kernel_rfl) (fun _ _ _ h => h) (Or.inl ⟨by rfl, ?hyp0⟩) cs ?restp0
        case hyp0 => (intro w hSw; obtain ⟨h1, h2⟩ := hSw; go_simp; try with_reducible rfl)
        simp only [Act.put, List.setIfInBounds_toArray, List.set_cons_zero, List.set_cons_succ]
        refine wpAnyD_takeT 1 130 (v := ?vvp1) rfl rfl (by kernel_rfl) (by kernel_rfl) (by kernel_rfl) (by kernel_rfl) (fun _ _ _ h => h) (Or.inl ⟨by rfl, ?hyp1⟩) cs ?restp1
        case hyp1 => (intro w hSw; obtain ⟨h1, h2⟩ := hSw; go_simp; try with_reducible rfl)
        simp only [Act.put, List.setIfInBounds_toArray, List.set_cons_zero, List.set_cons_succ]
        refine wpAnyD_takeT 2 131 (v := ?vvp2) rfl rfl (by kernel_rfl) (by kernel_rfl) (by kernel_rfl) (by kernel_rfl) (fun _ _ _ h => h) (Or.inl ⟨by rfl, ?hyp2⟩) cs ?restp2
        case hyp2 => (intro w hSw; obtain ⟨h1, h2⟩ := hSw; go_simp; try with_reducible rfl)
        simp only [Act.put, List.setIfInBounds_toArray, List.set_cons_zero, List.set_cons_succ]
        refine wpAnyD_takeT 3 132 (v := ?vvp3) rfl rfl (by kernel_rfl) (by kernel_rfl) (by kernel_rfl) (by kernel_rfl) (fun _ _ _ h => h) (Or.inl ⟨by rfl, ?hyp3⟩) cs ?restp3
        case hyp3 => (intro w hSw; obtain ⟨h1, h2⟩ := hSw; go_simp; try with_reducible rfl)
        simp only [Act.put, List.setIfInBounds_toArray, List.set_cons_zero, List.set_cons_succ]
        refine wpAnyD_takeT 4 133 (v := ?vvp4) rfl rfl (by kernel_rfl) (by kernel_rfl) (by kernel_rfl) (by kernel_rfl) (fun _ _ _ h => h) (Or.inl ⟨by rfl, ?hyp4⟩) cs ?restp4
        case hyp4 => (intro w hSw; obtain ⟨h1, h2⟩ := hSw; go_simp; try with_reducible rfl)
        simp only [Act.put, List.setIfInBounds_toArray, List.set_cons_zero, List.set_cons_succ]
        refine wpAnyD_takeT 5 134 (v := .agg (ndc v3 Kn).toArray) rfl rfl (by kernel_rfl) (by kernel_rfl) (by kernel_rfl) (by kernel_rfl) (fun _ _ _ h => h) (Or.inl ⟨by rfl, ?hyp5⟩) cs ?restp5
        case hyp5 => exact fun u hSw => yield_load (p := .pointer (some ⟨nb, 0, none⟩)) rfl rfl hSw.2
        simp only [Act.put, List.setIfInBounds_toArray, List.set_cons_zero, List.set_cons_succ]
        refine wpAnyD_one 6 (by kernel_rfl) rfl (fun KK hK => ?_)
        rw [if_pos (show Region.wanted _ _ = true from rfl)]
        refine wp_buildSlice_eq1 _ _ _ rfl (v := .slice (some ⟨WDp.heap.size, 0, none⟩) 1 1) (w' := (WDp.alloc (Obj.cells (ndc v3 Kn).toArray 257))) ?bsp ?_
        case bsp =>
          simp only [List.map_toArray, List.map_cons, List.map_nil]
          exact run_bsRow elNd (by omega) (.agg (ndc v3 Kn).toArray) (ndc v3 Kn) rfl rfl WDp
        refine hK.out _ _ (fun _ => cs7) ?_
        clear hK KK
        refine wpAnyD_one 7 (by kernel_rfl) rfl (fun KK hK => ?_)
        rw [if_pos (show Region.wanted _ _ = true from rfl)]
        refine wp_appRowL _ _ elNd rfl B0 na ns.length nc (ndsF nv ns) rfl HSd.out.1.nodes (ndc v3 Kn) rfl (ndc_one _ _) rfl (by omega) (by omega) hBd ?_
        intro g8 c8 w8 o8 b8 gr8 at8
        have kN8 : Blk w8 257 nb (ndc v3 Kn) := by
          refine (gr8.block nb HK7.out.1.lt ?_).trans HK7.out.1
          intro e
          rcases HSd.out.1.nodes.2 with ⟨e1, _⟩ | ⟨g', cap', cur', e1, _⟩
          · rw [e1] at e; simp [Value.ownBlock] at e
          · rw [e1] at e
            simp [Value.ownBlock] at e
            simp only [Value.slice.injEq] at e1
            subst e
            exact HNA.out e1.1
        have k8 : Blk w8 207 g _ := HSd.out.1.blk.keepT ((keepT_below ((Below.refl _ _).alloc (Nat.le_refl _) _)).trans (keepT_grown (own_below HSd.out.1.nodes ((Below.refl _ _).alloc (Nat.le_refl _) _)) gr8 (by decide)))
        have c0 : w8.cell? ⟨g, 0, none⟩ = some (.slice na ns.length nc) := k8.cell 0
        refine hK.out _ _ (fun _ => ⟨c0, HKD.out _ kN8⟩) ?_
        clear hK KK
        have st8 := HSd.out.1.push (HSd.out.2.2.mono (Nat.zero_le _)) o8 b8 gr8
        have f8 : Fr3 g sb na w (w8.setCell ⟨g, 0, none⟩ (.slice (some ⟨g8, 0, none⟩) (ns.length + 1) c8)) := HSd.out.2.1.trans (Fr3.push HSd.out.1.nodes gr8 HSd.out.1.blk.lt) (Or.inl rfl)
        have fz0 := k8.free 0
        have hat : Hid (na = some ⟨g8, 0, none⟩ ∨ WDp.heap.size < g8) := at8
        have H8 : Hid _ := And.intro st8 f8
        have hWd : w.heap.size ≤ WDp.heap.size := HSd.out.2.1.size
        clear st8 f8 k8 o8 b8 gr8 at8 cs7 kN8 HK7 HKD
        refine wpAnyD_one 8 (by kernel_rfl) rfl (fun KK hK => ?_)
        rw [if_pos (show Region.wanted _ _ = true from rfl)]
        go_wp2_with fail
        refine hK.out _ _ (fun h => absurd h (by decide)) ?_
        clear hK KK
        refine wpAnyD_one 9 (by kernel_rfl) rfl (fun KK hK => ?_)
        rw [if_pos (show Region.wanted _ _ = true from rfl)]
        go_wp2_with fail
        refine hK.out _ _ (fun h => absurd h (by decide)) ?_
        clear hK KK
        refine wpAnyD_one 10 (by kernel_rfl) rfl (fun KK hK => ?_)
        rw [if_pos (show Region.wanted _ _ = true from rfl)]
        go_wp2_with fail
        refine hK.out _ _ (fun h => absurd h (by decide)) ?_
        clear hK KK
        refine wpAnyD_done (by kernel_rfl) ?_ _
        clear c0 fz0 cs
        generalize w8.setCell ⟨g, 0, none⟩ (.slice (some ⟨g8, 0, none⟩) (ns.length + 1) c8) = W9 at *
        have c9 : W9.cell? ⟨g, 0, none⟩ = some (.slice (some ⟨g8, 0, none⟩) (ns.length + 1) c8) := (H8.out.1.blk.cell 0).trans (by simp [trc])
        go_wp2_with fail
        go_ret
        have hp : RdQ P B0 g sb N rt (f + 1) steps (i : Int) w ns nv na seen tall W9 (ns.length : Nat) [Kn] (updN nv ns.length v3) (some ⟨g8, 0, none⟩) c8 ((i : Int) :: seen) (steps : Nat) false := by
          refine ⟨H8.out.2, H8.out.1, ?_, fun j hj => updN_lt _ _ hj, fun j k h1 h2 h3 => ?_, ?_, HL.out.2, Or.inl ⟨rfl, _, HY.out, rfl, ?_⟩⟩
          · rcases hat.out with h | h
            · exact Or.inl h.symm
            · exact Or.inr ⟨g8, rfl, by omega⟩
          · have hj : j = ns.length := by rw [List.length_append] at h2; simp at h2; omega
            subst hj
            rw [updN_same] at h3
            exact hkd.out k h3
          · rw [List.length_append, List.length_cons]; simp; omega
          · rw [Rep]
            exact ⟨ns.length, rfl, by rw [HKN.out]; simp⟩
        first | exact rdP_mk hp | (refine (congrArg (fun x => RdP P B0 g sb N rt (f + 1) steps (i : Int) w ns nv na seen tall (.returned (.int .i64 x)) _) ?_).mp (rdP_mk hp); simp)
    · have htn : (tall != (steps : Nat)) = false := by simp [htl']
      have ht0 : 0 ≤ tall := by omega
      clear htl'
      go_upto_region 17 with fail
      generalize (W4.setCell ⟨g, 3, none⟩ (.int .i64 (steps : Nat))).setCell ⟨nb, 0, none⟩ (.int .i64 (i : Int)) = W5 at *
      clear cT3 fT3 cT4 fT4 cN4 cN0 fN0
      go_wp2_with fail
      go_loopw [14] (fun x wr => x = .int .i64 0 ∧ wr = W5) (fun _ _ => 0)
      case atStart => exact ⟨rfl, rfl⟩
      case round =>
        obtain ⟨rfl, hwr⟩ := hrel
        obtain rfl := hwr.symm
        clear hwr
        go_upto_region 21 with fail
        clear cN4'
        have drp : Below W5.heap.size W5 W5.drew := ⟨rfl, rfl, rfl, Nat.le_refl _, fun _ _ => rfl⟩
        have std := H5.out.1.belowT drp
        have kNd := H5.out.2.2.2.below drp
        have Od := H5.out.2.2.1.below drp
        have KEY : Hid (∀ u : World, Blk u 257 nb (ndc v3 Kn) → (Instr.loadAt 257 (.pointer (some ⟨nb, 0, none⟩))).run Tryz.prog u = .ok (.agg (ndc v3 Kn).toArray) u) := fun u hu => by
          simp only [Instr.loadAt, Instr.sureAddr, Sem.run_bind, Sem.run_pure, Result.andThen]
          exact run_loadVar_row u nb 257 257 (ndc v3 Kn).toArray (0, 0) _ hu Tryz.underlying257 rfl sizeNd
        have fd : Fr3 g sb na w W5.drew := H5.out.2.1.trans (Fr3.ofBelow (na := na) drp) (Or.inl rfl)
        refine wp_regionD (fun u => u.cell? ⟨g, 0, none⟩ = some (.slice na ns.length nc) ∧ (Instr.loadAt 257 (.pointer (some ⟨nb, 0, none⟩))).run Tryz.prog u = .ok (.agg (ndc v3 Kn).toArray) u) (fun k => decide (8 ≤ k)) (by kernel_rfl) ?_
        generalize W5.drew = WDp at *
        have cs : WDp.cell? ⟨g, 0, none⟩ = some (.slice na ns.length nc) ∧ (Instr.loadAt 257 (.pointer (some ⟨nb, 0, none⟩))).run Tryz.prog WDp = .ok (.agg (ndc v3 Kn).toArray) WDp := ⟨std.blk.cell 0, KEY.out _ kNd⟩
        have q7 : Below WDp.heap.size WDp (WDp.alloc (Obj.cells (ndc v3 Kn).toArray 257)) := (Below.refl _ _).alloc (Nat.le_refl _) _
        have cs7 : (WDp.alloc (Obj.cells (ndc v3 Kn).toArray 257)).cell? ⟨g, 0, none⟩ = some (.slice na ns.length nc) ∧ (Instr.loadAt 257 (.pointer (some ⟨nb, 0, none⟩))).run Tryz.prog (WDp.alloc (Obj.cells (ndc v3 Kn).toArray 257)) = .ok (.agg (ndc v3 Kn).toArray) (WDp.alloc (Obj.cells (ndc v3 Kn).toArray 257)) := ⟨(std.belowT q7).blk.cell 0, KEY.out _ (kNd.below q7)⟩
        have hBd : B0 ≤ WDp.heap.size := std.gB
        have HSd : Hid _ := And.intro std (And.intro fd Od)
        have HKD : Hid (∀ u : World, Blk u 257 nb (ndc v3 Kn) → (Instr.loadAt 257 (.pointer (some ⟨nb, 0, none⟩))).run Tryz.prog u = .ok (.agg (ndc v3 Kn).toArray) u) := KEY
        have HK7 : Hid _ := And.intro (kNd.below q7) q7
        clear std fd Od kNd q7 KEY drp
        refine wpAnyD_takeT 0 129 (v := ?vvr0) rfl rfl (by kernel_rfl) (by kernel_rfl) (by kernel_rfl) (by kernel_rfl) (fun _ _ _ h => h) (Or.inl ⟨by rfl, ?hyr0⟩) cs ?restr0
        case hyr0 => (intro w hSw; obtain ⟨h1, h2⟩ := hSw; go_simp; try with_reducible rfl)
        simp only [Act.put, List.setIfInBounds_toArray, List.set_cons_zero, List.set_cons_succ]
        refine wpAnyD_takeT 1 130 (v := ?vvr1) rfl rfl (by kernel_rfl) (by kernel_rfl) (by kernel_rfl) (by kernel_rfl) (fun _ _ _ h => h) (Or.inl ⟨by rfl, ?hyr1⟩) cs ?restr1
        case hyr1 => (intro w hSw; obtain ⟨h1, h2⟩ := hSw; go_simp; try with_reducible rfl)
        simp only [Act.put, List.setIfInBounds_toArray, List.set_cons_zero, List.set_cons_succ]
        refine wpAnyD_takeT 2 131 (v := ?vvr2) rfl rfl (by kernel_rfl) (by kernel_rfl) (by kernel_rfl) (by kernel_rfl) (fun _ _ _ h => h) (Or.inl ⟨by rfl, ?hyr2⟩) cs ?restr2
        case hyr2 => (intro w hSw; obtain ⟨h1, h2⟩ := hSw; go_simp; try with_reducible rfl)
        simp only [Act.put, List.setIfInBounds_toArray, List.set_cons_zero, List.set_cons_succ]
        refine wpAnyD_takeT 3 132 (v := ?vvr3) rfl rfl (by kernel_rfl) (by kernel_rfl) (by kernel_rfl) (by kernel_rfl) (fun _ _ _ h => h) (Or.inl ⟨by rfl, ?hyr3⟩) cs ?restr3
        case hyr3 => (intro w hSw; obtain ⟨h1, h2⟩ := hSw; go_simp; try with_reducible rfl)
        simp only [Act.put, List.setIfInBounds_toArray, List.set_cons_zero, List.set_cons_succ]
        refine wpAnyD_takeT 4 133 (v := ?vvr4) rfl rfl (by kernel_rfl) (by kernel_rfl) (by kernel_rfl) (by kernel_rfl) (fun _ _ _ h => h) (Or.inl ⟨by rfl, ?hyr4⟩) cs ?restr4
        case hyr4 => (intro w hSw; obtain ⟨h1, h2⟩ := hSw; go_simp; try with_reducible rfl)
        simp only [Act.put, List.setIfInBounds_toArray, List.set_cons_zero, List.set_cons_succ]
        refine wpAnyD_takeT 5 134 (v := .agg (ndc v3 Kn).toArray) rfl rfl (by kernel_rfl) (by kernel_rfl) (by kernel_rfl) (by kernel_rfl) (fun _ _ _ h => h) (Or.inl ⟨by rfl, ?hyr5⟩) cs ?restr5
        case hyr5 => exact fun u hSw => yield_load (p := .pointer (some ⟨nb, 0, none⟩)) rfl rfl hSw.2
        simp only [Act.put, List.setIfInBounds_toArray, List.set_cons_zero, List.set_cons_succ]
        refine wpAnyD_one 6 (by kernel_rfl) rfl (fun KK hK => ?_)
        rw [if_pos (show Region.wanted _ _ = true from rfl)]
        refine wp_buildSlice_eq1 _ _ _ rfl (v := .slice (some ⟨WDp.heap.size, 0, none⟩) 1 1) (w' := (WDp.alloc (Obj.cells (ndc v3 Kn).toArray 257))) ?bsr ?_
        case bsr =>
          simp only [List.map_toArray, List.map_cons, List.map_nil]
          exact run_bsRow elNd (by omega) (.agg (ndc v3 Kn).toArray) (ndc v3 Kn) rfl rfl WDp
        refine hK.out _ _ (fun _ => cs7) ?_
        clear hK KK
        refine wpAnyD_one 7 (by kernel_rfl) rfl (fun KK hK => ?_)
        rw [if_pos (show Region.wanted _ _ = true from rfl)]
        refine wp_appRowL _ _ elNd rfl B0 na ns.length nc (ndsF nv ns) rfl HSd.out.1.nodes (ndc v3 Kn) rfl (ndc_one _ _) rfl (by omega) (by omega) hBd ?_
        intro g8 c8 w8 o8 b8 gr8 at8
        have kN8 : Blk w8 257 nb (ndc v3 Kn) := by
          refine (gr8.block nb HK7.out.1.lt ?_).trans HK7.out.1
          intro e
          rcases HSd.out.1.nodes.2 with ⟨e1, _⟩ | ⟨g', cap', cur', e1, _⟩
          · rw [e1] at e; simp [Value.ownBlock] at e
          · rw [e1] at e
            simp [Value.ownBlock] at e
            simp only [Value.slice.injEq] at e1
            subst e
            exact HNA.out e1.1
        have k8 : Blk w8 207 g _ := HSd.out.1.blk.keepT ((keepT_below ((Below.refl _ _).alloc (Nat.le_refl _) _)).trans (keepT_grown (own_below HSd.out.1.nodes ((Below.refl _ _).alloc (Nat.le_refl _) _)) gr8 (by decide)))
        have c0 : w8.cell? ⟨g, 0, none⟩ = some (.slice na ns.length nc) := k8.cell 0
        refine hK.out _ _ (fun _ => ⟨c0, HKD.out _ kN8⟩) ?_
        clear hK KK
        have st8 := HSd.out.1.push (HSd.out.2.2.mono (Nat.zero_le _)) o8 b8 gr8
        have f8 : Fr3 g sb na w (w8.setCell ⟨g, 0, none⟩ (.slice (some ⟨g8, 0, none⟩) (ns.length + 1) c8)) := HSd.out.2.1.trans (Fr3.push HSd.out.1.nodes gr8 HSd.out.1.blk.lt) (Or.inl rfl)
        have fz0 := k8.free 0
        have hat : Hid (na = some ⟨g8, 0, none⟩ ∨ WDp.heap.size < g8) := at8
        have H8 : Hid _ := And.intro st8 f8
        have hWd : w.heap.size ≤ WDp.heap.size := HSd.out.2.1.size
        clear st8 f8 k8 o8 b8 gr8 at8 cs7 kN8 HK7 HKD
        refine wpAnyD_one 8 (by kernel_rfl) rfl (fun KK hK => ?_)
        rw [if_pos (show Region.wanted _ _ = true from rfl)]
        go_wp2_with fail
        refine hK.out _ _ (fun h => absurd h (by decide)) ?_
        clear hK KK
        refine wpAnyD_one 9 (by kernel_rfl) rfl (fun KK hK => ?_)
        rw [if_pos (show Region.wanted _ _ = true from rfl)]
        go_wp2_with fail
        refine hK.out _ _ (fun h => absurd h (by decide)) ?_
        clear hK KK
        refine wpAnyD_one 10 (by kernel_rfl) rfl (fun KK hK => ?_)
        rw [if_pos (show Region.wanted _ _ = true from rfl)]
        go_wp2_with fail
        refine hK.out _ _ (fun h => absurd h (by decide)) ?_
        clear hK KK
        refine wpAnyD_done (by kernel_rfl) ?_ _
        clear c0 fz0 cs
        generalize w8.setCell ⟨g, 0, none⟩ (.slice (some ⟨g8, 0, none⟩) (ns.length + 1) c8) = W9 at *
        have c9 : W9.cell? ⟨g, 0, none⟩ = some (.slice (some ⟨g8, 0, none⟩) (ns.length + 1) c8) := (H8.out.1.blk.cell 0).trans (by simp [trc])
        go_wp2_with fail
        go_ret
        have hp : RdQ P B0 g sb N rt (f + 1) steps (i : Int) w ns nv na seen tall W9 (ns.length : Nat) [Kn] (updN nv ns.length v3) (some ⟨g8, 0, none⟩) c8 ((i : Int) :: seen) (steps : Nat) false := by
          refine ⟨H8.out.2, H8.out.1, ?_, fun j hj => updN_lt _ _ hj, fun j k h1 h2 h3 => ?_, ?_, HL.out.2, Or.inl ⟨rfl, _, HY.out, rfl, ?_⟩⟩
          · rcases hat.out with h | h
            · exact Or.inl h.symm
            · exact Or.inr ⟨g8, rfl, by omega⟩
          · have hj : j = ns.length := by rw [List.length_append] at h2; simp at h2; omega
            subst hj
            rw [updN_same] at h3
            exact hkd.out k h3
          · rw [List.length_append, List.length_cons]; simp; omega
          · rw [Rep]
            exact ⟨ns.length, rfl, by rw [HKN.out]; simp⟩
        first | exact rdP_mk hp | (refine (congrArg (fun x => RdP P B0 g sb N rt (f + 1) steps (i : Int) w ns nv na seen tall (.returned (.int .i64 x)) _) ?_).mp (rdP_mk hp); simp)
  · subst hok
    have hno : rdT P (f + 1) steps ⟨seen, tall⟩ (i : Int) = none := by
      rw [HRT.out, if_pos hnb.out]
      rcases hes with hes | hes
      · rw [hes]; rfl
      · rw [hes]; rfl
    have HB1 : Hid _ := BAD1.out (-1) hno
    clear BAD1 BAD2 hno
    rcases htl' with htl' | htl'
    · go_wp2_with fail
      go_ret
      exact rdP_mk HB1.out
    · have htn : (tall != (steps : Nat)) = false := by simp [htl']
      have ht0 : 0 ≤ tall := by omega
      clear htl' htl
      go_wp2_with fail
      go_ret
      exact rdP_mk HB1.out
end Go.Proofs.YtnohmedccbogkaaGreatDoor

namespace Go.Proofs.YtnohmedccbogkaaGreatDoor
open Go.RowKit
set_option linter.unusedVariables false
def kidN (i : Nat) (ls : List (ByteArray × Int)) (kd : List Int) : NdK := ⟨(i : Int), false, [], [], kd, ls.tail.map (fun x => x.1)⟩
def d0 : ByteArray × Int := (strOfNums [], 0)
def t0 : ByteArray × Tr := (strOfNums [], .nil)
structure LpI (P : Pg) (B0 g sb N : Nat) (rt : Int) (f steps i : Nat) (vs : Value) (w : World) (ns : List NdK) (nv : Nat → NdV) (na : Option Addr) (seen : List Int) (tall : Int) (nb : Nat) (v : NdV) (ls : List (ByteArray × Int)) (j : Nat) (kd : List Int) (ms : List NdK) (nv1 : Nat → NdV) (na1 : Option Addr) (nc1 : Nat) (seen1 : List Int) (tall1 : Int) (bad1 : Bool) (wr : World) : Prop where
  fr : Fr3 g sb na w wr
  st : TSt B0 g sb N rt wr (ns ++ ms) nv1 na1 nc1 seen1 tall1 bad1
  na : na1 = na ∨ ∃ k, na1 = some ⟨k, 0, none⟩ ∧ w.heap.size ≤ k
  old : ∀ m, m < ns.length → nv1 m = nv m
  new : ∀ m k, ns.length ≤ m → m < (ns ++ ms).length → (nv1 m).da = some ⟨k, 0, none⟩ → w.heap.size ≤ k
  le : (ns ++ ms).length + (steps + 1) ≤ seen1.length
  le2 : seen.length + 1 ≤ seen1.length
  blk : Blk wr 257 nb (ndc v (kidN i ls kd))
  own : ONd w.heap.size wr v (kidN i ls kd)
  vw : Blk wr 249 w.heap.size [vs]
  nan : na1 ≠ some ⟨nb, 0, none⟩
  sep : ∀ m, m < (ns ++ ms).length → ∀ k, v.da = some ⟨k, 0, none⟩ → (nv1 m).da ≠ some ⟨k, 0, none⟩
  len : kd.length = ls.length
  rest : ∀ m, j ≤ m → kd.getD m 0 = (ls.getD m d0).2
  res : (bad1 = false ∧ ∃ ts : List (ByteArray × Tr), ts.length = j ∧ (∀ m, m < j → (ts.getD m t0).1 = (ls.getD m d0).1) ∧ rdK (rdT P f ((steps : Int) + 1)) ls ⟨(i : Int) :: seen, tall⟩ = (rdK (rdT P f ((steps : Int) + 1)) (ls.drop j) ⟨seen1, tall1⟩).map (fun y => (preK ts y.1, y.2)) ∧ ∀ m, m < j → isT (ts.getD m t0).2 = true ∧ Rep (ns ++ ms) (ts.getD m t0).2 true [kd.getD m 0] []) ∨
    (bad1 = true ∧ rdK (rdT P f ((steps : Int) + 1)) ls ⟨(i : Int) :: seen, tall⟩ = none)
theorem LpI.belowL {P : Pg} {B0 g sb N : Nat} {rt : Int} {f steps i : Nat} {vs : Value} {w : World} {ns : List NdK} {nv : Nat → NdV} {na : Option Addr} {seen : List Int} {tall : Int} {nb : Nat} {v : NdV} {ls : List (ByteArray × Int)} {j : Nat} {kd : List Int} {ms : List NdK} {nv1 : Nat → NdV} {na1 : Option Addr} {nc1 : Nat} {seen1 : List Int} {tall1 : Int} {bad1 : Bool} {wr wr' : World}
    (I : LpI P B0 g sb N rt f steps i vs w ns nv na seen tall nb v ls j kd ms nv1 na1 nc1 seen1 tall1 bad1 wr) (hb : Below wr.heap.size wr wr') : LpI P B0 g sb N rt f steps i vs w ns nv na seen tall nb v ls j kd ms nv1 na1 nc1 seen1 tall1 bad1 wr' :=
  ⟨I.fr.trans (Fr3.ofBelow hb) I.na, I.st.belowT hb, I.na, I.old, I.new, I.le, I.le2, I.blk.below hb, I.own.below hb, I.vw.below hb, I.nan, I.sep, I.len, I.rest, I.res⟩
theorem LpI.after {P : Pg} {B0 g sb N : Nat} {rt : Int} {f steps i : Nat} {vs : Value} {w : World} {ns : List NdK} {nv : Nat → NdV} {na : Option Addr} {seen : List Int} {tall : Int} {nb : Nat} {v : NdV} {ls : List (ByteArray × Int)} {j : Nat} {kd : List Int} {ms : List NdK} {nv1 : Nat → NdV} {na1 : Option Addr} {nc1 : Nat} {seen1 : List Int} {tall1 : Int} {bad1 : Bool} {wr w6 : World}
    (I : LpI P B0 g sb N rt f steps i vs w ns nv na seen tall nb v ls j kd ms nv1 na1 nc1 seen1 tall1 bad1 wr) (fr : Fr3 g sb na1 wr w6) :
    Blk w6 257 nb (ndc v (kidN i ls kd)) ∧ ONd w.heap.size w6 v (kidN i ls kd) ∧ Blk w6 249 w.heap.size [vs] := by
  have hgn : nb ≠ g := fun e => by
    have h1 := I.st.blk
    have h2 := I.blk
    unfold Blk at h1 h2
    rw [e, h1] at h2
    cases h2
  have hsn : nb ≠ sb := fun e => by
    obtain ⟨_, c1, h1⟩ := I.st.mks.blk
    have h2 := I.blk
    unfold Blk at h2
    rw [e, h1] at h2
    cases h2
  have kT : ∀ t, t ≠ 207 → t ≠ 4 → t ≠ 257 → KeepT t wr w6 := fun t h1 h2 h3 => fr.keepT I.st h1 h2 h3
  exact ⟨(fr.block nb I.blk.lt hgn hsn I.nan).trans I.blk, I.own.keep (kT _ (by decide) (by decide) (by decide)) (kT _ (by decide) (by decide) (by decide)), I.vw.keepT (kT _ (by decide) (by decide) (by decide))⟩
theorem drop_cons {ls : List (ByteArray × Int)} {j : Nat} (h : j < ls.length) : ls.drop j = ((ls.getD j d0).1, (ls.getD j d0).2) :: ls.drop (j + 1) := by
  rw [List.drop_eq_getElem_cons h]
  congr 1
  simp [List.getD, List.getElem?_eq_getElem h]
theorem LpI.step {P : Pg} {B0 g sb N : Nat} {rt : Int} {f steps i : Nat} {vs : Value} {w : World} {ns : List NdK} {nv : Nat → NdV} {na : Option Addr} {seen : List Int} {tall : Int} {nb : Nat} {v : NdV} {ls : List (ByteArray × Int)} {j : Nat} {kd : List Int} {ms : List NdK} {nv1 : Nat → NdV} {na1 : Option Addr} {nc1 : Nat} {seen1 : List Int} {tall1 : Int} {wr w6 : World}
    (I : LpI P B0 g sb N rt f steps i vs w ns nv na seen tall nb v ls j kd ms nv1 na1 nc1 seen1 tall1 false wr) (hj : j < ls.length) {kb : Nat} (hkb : v.da = some ⟨kb, 0, none⟩) (hnb : w.heap.size ≤ nb)
    {p : Int} {ms2 : List NdK} {nv2 : Nat → NdV} {na2 : Option Addr} {nc2 : Nat} {seen2 : List Int} {tall2 : Int} {bad2 : Bool}
    (Q : RdQ P B0 g sb N rt f (steps + 1) (kd.getD j 0) wr (ns ++ ms) nv1 na1 seen1 tall1 w6 p ms2 nv2 na2 nc2 seen2 tall2 bad2) :
    LpI P B0 g sb N rt f steps i vs w ns nv na seen tall nb v ls (j + 1) (kd.set j p) (ms ++ ms2) nv2 na2 nc2 seen2 tall2 bad2 (w6.setCell ⟨kb, j, none⟩ (.int .i64 p)) := by
  have hlenK : (kidN i ls kd).kids.length = kd.length := rfl
  have ow := I.own.kids
  rw [hkb] at ow
  obtain ⟨hkw, cur, hcur⟩ := ow.blk
  have kI : KeepT 3 wr w6 := Q.fr.keepT I.st (by decide) (by decide) (by decide)
  have kS : KeepT 9 wr w6 := Q.fr.keepT I.st (by decide) (by decide) (by decide)
  have kV : KeepT 249 wr w6 := Q.fr.keepT I.st (by decide) (by decide) (by decide)
  have hkl : kb < wr.heap.size := (Array.getElem?_eq_some_iff.1 hcur).1
  have hcur6 := kI.block _ _ _ hcur
  have hnl := I.blk.lt
  have hgn : nb ≠ g := fun e => by
    have h1 := I.st.blk
    have h2 := I.blk
    unfold Blk at h1 h2
    rw [e, h1] at h2
    cases h2
  have hsn : nb ≠ sb := fun e => by
    obtain ⟨_, c1, h1⟩ := I.st.mks.blk
    have h2 := I.blk
    unfold Blk at h2
    rw [e, h1] at h2
    cases h2
  have hnk : nb ≠ kb := fun e => by
    have h2 := I.blk
    unfold Blk at h2
    rw [e, hcur] at h2
    cases h2
  have n6 : Blk w6 257 nb (ndc v (kidN i ls kd)) := (Q.fr.block nb hnl hgn hsn I.nan).trans I.blk
  have oK := onlyB_setCell w6 kb j (.int .i64 p)
  have n7 := n6.only oK hnk
  have kT : ∀ t, 3 ≠ t → KeepT t w6 (w6.setCell ⟨kb, j, none⟩ (.int .i64 p)) := fun t ht => keepT_onlyC oK hcur6 ht
  have eN : ndc v (kidN i ls kd) = ndc v (kidN i ls (kd.set j p)) := by simp [ndc, kidN]
  have sep2 : ∀ m, m < (ns ++ (ms ++ ms2)).length → ∀ k, v.da = some ⟨k, 0, none⟩ → (nv2 m).da ≠ some ⟨k, 0, none⟩ := fun m hm k hk he => by
    by_cases h : m < (ns ++ ms).length
    · rw [Q.old m h] at he
      exact I.sep m h k hk he
    · have := Q.new m k (by omega) (by rw [List.append_assoc]; exact hm) he
      rw [hkb] at hk
      cases hk
      omega
  have o6 := I.own.keep kS kI
  have okd : Own1 3 w.heap.size (w6.setCell ⟨kb, j, none⟩ (.int .i64 p)) v.da (kd.set j p).length v.dc (on (kd.set j p)) := by
    have h1 : Own1 3 w.heap.size w6 v.da kd.length v.dc (on kd) := o6.kids
    rw [hkb] at h1 ⊢
    have h2 := h1.set j (.int .i64 p)
    rw [on_set] at h2
    rw [List.length_set]
    exact h2
  refine ⟨(I.fr.trans Q.fr I.na).fresh oK hkw, ?_, ?_, fun m hm => ?_, fun m k h1 h2 h3 => ?_, ?_, Nat.le_trans I.le2 Q.le2, ?_, ⟨o6.keys.keep (kT _ (by decide)), o6.vals.keep (kT _ (by decide)), okd, o6.signs.keep (kT _ (by decide))⟩, (I.vw.keepT kV).keepT (kT _ (by decide)), ?_, sep2, by rw [List.length_set]; exact I.len, fun m hm => ?_, ?_⟩
  · have := Q.st
    rw [List.append_assoc] at this
    exact this.other (xs := []) oK ⟨_, hcur6⟩ (by decide) (by decide) (Or.inl (by decide)) (by decide) (Or.inr (fun m hm => sep2 m hm kb hkb))
  · rcases Q.na with h | ⟨k, h1, h2⟩
    · rw [h]; exact I.na
    · exact Or.inr ⟨k, h1, Nat.le_trans I.fr.size h2⟩
  · rw [Q.old m (by rw [List.length_append]; omega)]
    exact I.old m hm
  · by_cases h : m < (ns ++ ms).length
    · rw [Q.old m h] at h3
      exact I.new m k h1 h h3
    · have := Q.new m k (by omega) (by rw [List.append_assoc]; exact h2) h3
      exact Nat.le_trans I.fr.size this
  · have := Q.le
    rw [List.append_assoc] at this
    exact this
  · rw [← eN]; exact n7
  · rcases Q.na with h | ⟨k, h1, h2⟩
    · rw [h]; exact I.nan
    · rw [h1]; intro e; cases e; omega
  · rw [← I.rest m (by omega)]
    simp [List.getD, List.getElem?_set_ne (show j ≠ m by omega)]
  · rcases I.res with ⟨_, ts, h1, h2, h3, h4⟩ | ⟨h, _⟩
    · have hid := I.rest j (Nat.le_refl _)
      rw [drop_cons hj] at h3
      rcases Q.res with ⟨hb, T, q1, q2, q3⟩ | ⟨hb, q1⟩
      · refine Or.inl ⟨hb, ts ++ [((ls.getD j d0).1, T)], by simp [h1], fun m hm => ?_, ?_, fun m hm => ?_⟩
        · by_cases e : m = j
          · subst e
            simp [List.getD, ← h1]
          · have := h2 m (by omega)
            rw [← this]
            simp [List.getD, List.getElem?_append_left (show m < ts.length by omega)]
        · rw [h3]
          rw [hid] at q1
          exact rdK_step q1
        · by_cases e : m = j
          · subst e
            have e1 : (ts ++ [((ls.getD m d0).1, T)]).getD m t0 = ((ls.getD m d0).1, T) := by simp [List.getD, ← h1]
            have e2 : (kd.set m p).getD m 0 = p := by simp [List.getD, I.len, hj]
            rw [e1, e2, ← List.append_assoc]
            exact ⟨q2, q3⟩
          · have e1 : (ts ++ [((ls.getD j d0).1, T)]).getD m t0 = ts.getD m t0 := by simp [List.getD, List.getElem?_append_left (show m < ts.length by omega)]
            have e2 : (kd.set j p).getD m 0 = kd.getD m 0 := by simp [List.getD, List.getElem?_set_ne (show j ≠ m by omega)]
            rw [e1, e2, ← List.append_assoc]
            exact ⟨(h4 m (by omega)).1, (h4 m (by omega)).2.app ms2⟩
      · refine Or.inr ⟨hb, ?_⟩
        rw [h3]
        rw [hid] at q1
        have q2 : rdT P f ((steps : Int) + 1) ⟨seen1, tall1⟩ (ls.getD j d0).2 = none := q1
        rw [rdK_none q2]
        rfl
    · cases h
theorem lp_fin {P : Pg} {B0 g sb N : Nat} {rt : Int} {f steps i : Nat} {vs : Value} {w : World} {ns : List NdK} {nv : Nat → NdV} {na : Option Addr} {seen : List Int} {tall : Int} {nb : Nat} {v : NdV} {ls : List (ByteArray × Int)} {j : Nat} {kd : List Int} {ms : List NdK} {nv1 : Nat → NdV} {na1 : Option Addr} {nc1 : Nat} {seen1 : List Int} {tall1 : Int} {bad1 : Bool} {wr W9 : World}
    (I : LpI P B0 g sb N rt f steps i vs w ns nv na seen tall nb v ls j kd ms nv1 na1 nc1 seen1 tall1 bad1 wr) (hx : bad1 = true ∨ j = ls.length) {bd : List Int} (hin : inP bd = some ls)
    (hrt : rdT P (f + 1) steps ⟨seen, tall⟩ (i : Int) = ((inP bd).bind fun ls => (rdK (rdT P f ((steps : Nat) + 1)) ls ⟨(i : Int) :: seen, tall⟩).map fun y => (.node (i : Int) y.1, y.2))) {g8 c8 : Nat}
    (st8 : TSt B0 g sb N rt W9 ((ns ++ ms) ++ [kidN i ls kd]) (updN nv1 (ns ++ ms).length v) (some ⟨g8, 0, none⟩) c8 seen1 tall1 bad1) (f8 : Fr3 g sb na w W9) (hat : na1 = some ⟨g8, 0, none⟩ ∨ w.heap.size ≤ g8) :
    RdQ P B0 g sb N rt (f + 1) steps (i : Int) w ns nv na seen tall W9 ((ns ++ ms).length : Nat) (ms ++ [kidN i ls kd]) (updN nv1 (ns ++ ms).length v) (some ⟨g8, 0, none⟩) c8 seen1 tall1 bad1 := by
  have hlA : (ns ++ ms).length = ns.length + ms.length := List.length_append
  refine ⟨f8, by rw [← List.append_assoc]; exact st8, ?_, fun m hm => ?_, fun m k h1 h2 h3 => ?_, ?_, Nat.le_trans (Nat.le_succ _) I.le2, ?_⟩
  · rcases hat with h | h
    · rw [← h]; exact I.na
    · exact Or.inr ⟨g8, rfl, h⟩
  · rw [updN_lt _ _ (by omega)]
    exact I.old m hm
  · rw [← List.append_assoc, List.length_append] at h2
    have h2' : m < (ns ++ ms).length + 1 := h2
    by_cases e : m = (ns ++ ms).length
    · subst e
      rw [updN_same] at h3
      have h5 := I.own.kids
      rw [h3] at h5
      exact h5.blk.1
    · rw [updN_lt _ _ (by omega)] at h3
      exact I.new m k h1 (by omega) h3
  · rw [← List.append_assoc, List.length_append]
    have := I.le
    show (ns ++ ms).length + 1 + steps ≤ _
    omega
  · rcases I.res with ⟨hb, ts, h1, h2, h3, h4⟩ | ⟨hb, h1⟩
    · have hj : j = ls.length := by
        rcases hx with h | h
        · rw [hb] at h; cases h
        · exact h
      subst hj
      rw [List.drop_length] at h3
      refine Or.inl ⟨hb, .node (i : Int) (preK ts .nil), ?_, rfl, ?_⟩
      · rw [hrt, hin]
        simp only [Option.bind_some]
        rw [h3]
        rfl
      · rw [← List.append_assoc, Rep]
        refine ⟨(ns ++ ms).length, kd, ls.tail.map (fun x => x.1), rfl, by simp [kidN], ?_⟩
        have hr := rep_pre (ns := (ns ++ ms) ++ [kidN i ls kd]) ts true kd (by rw [I.len, h1]) (fun m hm => (h4 m (by omega)).2.app _)
        have e : ts.tail.map (·.1) = ls.tail.map (fun x => x.1) := by
          apply List.ext_getElem?
          intro m
          simp only [List.getElem?_map, List.getElem?_tail]
          by_cases hm : m + 1 < ts.length
          · have := h2 (m + 1) (by omega)
            simp only [List.getD, List.getElem?_eq_getElem hm, List.getElem?_eq_getElem (show m + 1 < ls.length by omega), Option.getD_some] at this
            rw [List.getElem?_eq_getElem hm, List.getElem?_eq_getElem (show m + 1 < ls.length by omega)]
            simp [this]
          · rw [List.getElem?_eq_none (by omega), List.getElem?_eq_none (by omega)]
            rfl
        rw [if_pos rfl, e] at hr
        exact hr
    · refine Or.inr ⟨hb, ?_⟩
      rw [hrt, hin]
      simp only [Option.bind_some]
      rw [h1]
      rfl
theorem lnP_len : ∀ (n : Nat) (l : List Int) (r : List (ByteArray × Int)), l.length ≤ n → lnP l = some r → r.length ≤ l.length
  | 0, l, r, h, e => by rw [lnP_nil (by omega)] at e; cases e; simp
  | n + 1, l, r, h, e => by
    by_cases h0 : l.length = 0
    · rw [lnP_nil h0] at e; cases e; simp
    · cases h1 : lnOne l with
      | false => rw [lnP_no h0 h1] at e; cases e
      | true =>
        rw [lnP_yes h1] at e
        obtain ⟨r2, e2, rfl⟩ := Option.map_eq_some_iff.1 e
        have hb := (lnOne_iff.1 h1).2.2
        have := lnP_len n (l.drop (5 + lfK l)) r2 (by rw [List.length_drop]; omega) e2
        rw [List.length_drop] at this
        simp
        omega
theorem inP_len {l : List Int} {ls : List (ByteArray × Int)} (h : inP l = some ls) : ls.length ≤ l.length := by
  unfold inP at h
  by_cases h4 : 4 ≤ l.length
  · rw [if_pos h4] at h
    obtain ⟨r, e2, rfl⟩ := Option.map_eq_some_iff.1 h
    have := lnP_len _ _ r (Nat.le_refl _) e2
    rw [List.length_drop] at this
    simp
    omega
  · rw [if_neg h4] at h; cases h
def LpE (P : Pg) (B0 g sb N : Nat) (rt : Int) (f steps i : Nat) (vs : Value) (w : World) (ns : List NdK) (nv : Nat → NdV) (na : Option Addr) (seen : List Int) (tall : Int) (nb : Nat) (v : NdV) (ls : List (ByteArray × Int)) (x : Value) (wr : World) : Prop :=
  ∃ j kd ms nv1 na1 nc1 seen1 tall1 bad1, x = .int .i64 ((j : Nat) : Int) ∧ j ≤ ls.length ∧ LpI P B0 g sb N rt f steps i vs w ns nv na seen tall nb v ls j kd ms nv1 na1 nc1 seen1 tall1 bad1 wr
end Go.Proofs.YtnohmedccbogkaaGreatDoor

namespace Go.Proofs.YtnohmedccbogkaaGreatDoor
open Go.RowKit
set_option linter.unusedVariables false
set_option maxHeartbeats 4000000 in
set_option maxRecDepth 100000 in
theorem read_inner (P : Pg) (N B0 g sb : Nat) (rt : Int) (vs : Value) (w0 : World) (PW : PgW P N) (HV : VwOk P vs g w0) (hB0 : w0.heap.size ≤ B0) (f : Nat) (IH : RdC P N B0 g sb rt vs w0 f) (steps : Nat) (id : Int) (ns : List NdK) (nv : Nat → NdV) (na : Option Addr) (nc : Nat) (seen : List Int) (tall : Int) (w : World) (hw : OnlyB g w0 w) (st : TSt B0 g sb N rt w ns nv na nc seen tall false) (hl : ns.length + steps ≤ seen.length) (hf : N < (f + 1) + seen.length) (hok : P.ok id = true) (h2 : 2 ≤ id) (hns : id ∉ seen) (hkd : P.kd id = 3) :
    Calls Tryz.prog 180 #[.pointer (some ⟨g, 0, none⟩), .agg #[vs], .int .i64 id, .int .i64 (steps : Nat)] w fun e w' => RdP P B0 g sb N rt (f + 1) steps id w ns nv na seen tall e w' := by
  have HIH : Hid _ := IH
  have hNle := PW.le
  have hsl := st.ok.le
  have q0 : Below w.heap.size w (w.alloc (Obj.cells #[vs] 249)) := (Below.refl _ _).alloc (Nat.le_refl _) _
  have kV := blk_new w 249 #[vs]
  have st0 := st.belowT q0
  have f0 : Fr3 g sb na w (w.alloc (Obj.cells #[vs] 249)) := Fr3.ofBelow q0
  have z0 : (w.alloc (Obj.cells #[vs] 249)).heap.size = w.heap.size + 1 := by simp
  have sV : (Tryz.prog.info? 249).map (·.size) = some (#[vs] : Array Value).size := by kernel_rfl
  go_enter Tryz.func180, Tryz.ntmps180
  go_upto_region 1 with fail
  change Code.wp _ _ _ _ (w.alloc (Obj.cells #[vs] 249))
  generalize w.alloc (Obj.cells #[vs] 249) = W at *
  have hz0 : w.heap.size < W.heap.size := by omega
  clear z0
  have hW : OnlyB g w0 W := f0.onlyG st hB0 hw
  have PGC := HV W hW id
  have hIB := PW.byte id
  have hbl := PW.len id
  have hokr := PW.ok id
  have kV' : Blk W 249 w.heap.size [vs] := kV
  clear kV HV
  obtain ⟨hid0, hidN⟩ := hokr hok
  have HRT : Hid (rdT P (f + 1) steps ⟨seen, tall⟩ id = ((inP (P.bd id)).bind fun ls => (rdK (rdT P f ((steps : Nat) + 1)) ls ⟨id :: seen, tall⟩).map fun y => (.node id y.1, y.2))) := by
    show rdT P (f + 1) steps ⟨seen, tall⟩ id = _
    rw [rdT, if_pos (pgOk_iff.2 ⟨hok, h2, hns, Or.inr hkd⟩), if_neg (by omega)]
  rw [hok, hkd] at PGC
  clear hokr hok hkd
  obtain ⟨i, rfl⟩ := Int.eq_ofNat_of_zero_le hid0
  have hiN : i < N := by omega
  generalize hbd : P.bd (i : Int) = bd at *
  clear hbd
  generalize hbn : bd.length = bn at *
  go_wp2_with (refine wpList_load_row rfl 249 _ rfl w.heap.size rfl 249 #[vs] (0, 0) _ kV' Tryz.underlying249 rfl sV ?_)
  refine PGC.mono ?_
  rintro e w1 ⟨a1, c1, rfl, b1, o1⟩
  have st1 := st0.belowT b1
  have f1 : Fr3 g sb na w w1 := f0.trans (Fr3.ofBelow b1) (Or.inl rfl)
  have kV1 := kV'.below b1
  have bs1 := o1.bs hIB
  have cT2 : w1.cell? ⟨g, 2, none⟩ = some (.slice (some ⟨sb, 0, none⟩) N N) := st1.blk.cell 2
  have hz1 : W.heap.size ≤ w1.heap.size := b1.size
  have H1 : Hid _ := And.intro st1 (And.intro f1 (And.intro kV1 (And.intro bs1 o1)))
  clear PGC st1 f1 kV1 bs1 o1 b1 st0 f0 kV' q0
  have hcS : w1.cell? ⟨sb, i, none⟩ = some (.bool false) := by
    obtain ⟨g', e1, _, _, _, hc⟩ := H1.out.1.mks.at_ (by omega)
    cases e1
    rw [hc i hiN, mkB_get _ _ _ hiN]
    cases hsc : seen.contains (i : Int) with
    | false => rfl
    | true => exact absurd (List.contains_iff_mem.1 hsc) hns
  have hfS : w1.frozen? ⟨sb, i, none⟩ = false := H1.out.1.mks.free i
  have ho2 := onlyB_setCell w1 sb i (.bool true)
  have st2 := H1.out.1.mark hiN hns
  have f2 : Fr3 g sb na w (w1.setCell ⟨sb, i, none⟩ (.bool true)) := H1.out.2.1.trans (Fr3.only ho2 (Or.inr (Or.inl rfl))) (Or.inl rfl)
  obtain ⟨_, curS, hcurS⟩ := H1.out.1.mks.blk
  have kp2 : ∀ t, 4 ≠ t → KeepT t w1 (w1.setCell ⟨sb, i, none⟩ (.bool true)) := fun t ht => keepT_onlyC ho2 hcurS ht
  have kV2 := H1.out.2.2.1.keepT (kp2 _ (by decide))
  have o2 : Own W.heap.size (w1.setCell ⟨sb, i, none⟩ (.bool true)) a1 bn c1 bd := ownsRow_keepT H1.out.2.2.2.2 (kp2 _ (by decide))
  have bs2 := o2.bs hIB
  have hz2 : w1.heap.size ≤ (w1.setCell ⟨sb, i, none⟩ (.bool true)).heap.size := ho2.size
  have LF := l3Leaf_calls a1 bn c1 bd _ bs2 (by omega)
  have H2 : Hid _ := And.intro st2 (And.intro f2 (And.intro kV2 bs2))
  clear H1 st2 f2 kV2 o2 bs2 kp2 hcurS ho2
  go_upto_region 6 with fail
  clear cT2 hcS hfS
  generalize w1.setCell ⟨sb, i, none⟩ (.bool true) = W2 at *
  go_wp2_with fail
  refine LF.mono ?_
  rintro e w3 ⟨v3, K3, ok3, rfl, b3, O3, hres⟩
  clear hres LF O3
  have st3 := H2.out.1.belowT b3
  have f3 : Fr3 g sb na w w3 := H2.out.2.1.trans (Fr3.ofBelow b3) (Or.inl rfl)
  have q3 : Below w3.heap.size w3 (w3.alloc (Obj.cells (ndc v3 K3).toArray 257)) := (Below.refl _ _).alloc (Nat.le_refl _) _
  have kN := blk_new w3 257 (ndc v3 K3).toArray
  have st4 := st3.belowT q3
  have f4 : Fr3 g sb na w (w3.alloc (Obj.cells (ndc v3 K3).toArray 257)) := f3.trans (Fr3.ofBelow q3) (Or.inl rfl)
  have kV4 := (H2.out.2.2.1.below b3).below q3
  have bs4 := (H2.out.2.2.2.below b3).below q3
  have hna : na ≠ some ⟨w3.heap.size, 0, none⟩ := fun e => by
    have hh := st3.nodes
    rw [e] at hh
    obtain ⟨_, cur, hc⟩ := hh.blk
    have := (Array.getElem?_eq_some_iff.1 hc).1
    omega
  have hzz : W2.heap.size ≤ w3.heap.size := b3.size
  clear H2 st3 f3 q3 b3
  go_upto_region 7 with (refine wpList_storeNew rfl 257 _ _ rfl w3 (ndc nilV nd0).toArray (ndc v3 K3).toArray 257 rfl rfl sizeNd rfl (ndc_all _ _) ?_)
  change Code.wp _ _ _ _ (w3.alloc (Obj.cells (ndc v3 K3).toArray 257))
  generalize w3.alloc (Obj.cells (ndc v3 K3).toArray 257) = W4 at *
  have kN4 : Blk W4 257 w3.heap.size (ndc v3 K3) := kN
  clear kN
  generalize w3.heap.size = nb at *
  have hnbw : w.heap.size ≤ nb := by omega
  have hsep4 : Hid (∀ m, m < ns.length → ∀ k, (nv m).da = some ⟨k, 0, none⟩ → k < W4.heap.size) := fun m hm k e => (st4.each m hm).kids.lt e
  have LI := l3Inner_calls a1 bn c1 bd W4 bs4 (by omega)
  go_wp2_with fail
  refine LI.mono ?_
  rintro e w5 ⟨v5, K5, ok5, rfl, b5, O5, hres⟩
  have HRES : Hid _ := hres
  clear hres LI bs4
  have st5 := st4.belowT b5
  have f5 : Fr3 g sb na w w5 := f4.trans (Fr3.ofBelow b5) (Or.inl rfl)
  have kN5 := kN4.below b5
  have kV5 := kV4.below b5
  have oF := onlyB_setRow w5 nb (ndc v5 K5).toArray
  have kN6 := kN5.setRow (ndc v5 K5)
  have st6 := st5.other (xs := []) oF ⟨_, kN5⟩ (by decide) (by decide) (Or.inr hna) (by decide) (Or.inl (by decide))
  have f6 := f5.fresh oF hnbw
  have O6 := (O5.keep (keepT_only oF kN5 (by decide)) (keepT_only oF kN5 (by decide)))
  have kV6 := kV5.keepT (keepT_only oF kN5 (by decide))
  have hW4 : nb < W4.heap.size := kN4.lt
  have H6 : Hid _ := And.intro st6 (And.intro f6 (And.intro O6 (And.intro kN6 (And.intro kV6 hna))))
  clear st4 f4 kN4 kV4 st5 f5 kV5 oF st6 f6 O6 kN6 kV6 hna O5 b5
  go_upto_region 11 with (refine wpList_store_row rfl 257 _ _ rfl nb (ndc v5 K5).toArray rfl rfl 257 _ kN5 sizeNd rfl (ndc_all _ _) ?_)
  generalize w5.setRow nb (ndc v5 K5).toArray = W6 at *
  clear kN5
  have cT4 : W6.cell? ⟨g, 4, none⟩ = some (.bool false) := H6.out.1.blk.cell 4
  have fT4 := H6.out.1.blk.free 4
  have cN0 : W6.cell? ⟨nb, 0, none⟩ = some (.int .i64 K5.page) := H6.out.2.2.2.1.cell 0
  have fN0 := H6.out.2.2.2.1.free 0
  rcases HRES.out with ⟨hok, ls, hin, hK⟩ | ⟨hok, hin⟩
  case inr =>
    subst hok
    have hno : rdT P (f + 1) steps ⟨seen, tall⟩ (i : Int) = none := by rw [HRT.out, hin]; rfl
    have hsc2 : seen.length ≤ ((i : Int) :: seen).length := by rw [List.length_cons]; omega
    have HB1 : Hid (RdQ P B0 g sb N rt (f + 1) steps (i : Int) w ns nv na seen tall (W6.setCell ⟨g, 4, none⟩ (.bool true)) (-1) [] nv na nc ((i : Int) :: seen) tall true) :=
      rd_fail (w1 := W6) (-1) (H6.out.2.1.trans (Fr3.only (onlyB_setCell W6 g 4 (.bool true)) (Or.inl rfl)) (Or.inl rfl)) (H6.out.1.set 4 (.bool true) rfl) hl hsc2 hno
    clear hno hsc2 H6
    go_wp2_with fail
    go_ret
    exact rdP_mk HB1.out
  case inl =>
  subst hok
  have HIN : Hid _ := hin
  have hllb : ls.length ≤ 1048576 := by have := inP_len hin; omega
  have oN := onlyB_setCell W6 nb 0 (.int .i64 (i : Int))
  have kN7 := H6.out.2.2.2.1.set 0 (.int .i64 (i : Int))
  have eN : (ndc v5 K5).set 0 (.int .i64 (i : Int)) = ndc v5 (kidN i ls (ls.map (fun x => x.2))) := by rw [hK]; rfl
  rw [eN] at kN7
  have kpt : ∀ t, 257 ≠ t → KeepT t W6 (W6.setCell ⟨nb, 0, none⟩ (.int .i64 (i : Int))) := fun t h2 => keepT_only oN H6.out.2.2.2.1 h2
  have hIB7 : LpI P B0 g sb N rt f steps i vs w ns nv na seen tall nb v5 ls 0 (ls.map (fun x => x.2)) [] nv na nc ((i : Int) :: seen) tall false (W6.setCell ⟨nb, 0, none⟩ (.int .i64 (i : Int))) := by
    have OO := H6.out.2.2.1.keep (kpt _ (by decide)) (kpt _ (by decide))
    rw [hK] at OO
    have hOk : Own1 3 W4.heap.size (W6.setCell ⟨nb, 0, none⟩ (.int .i64 (i : Int))) v5.da (ls.map (fun x => x.2)).length v5.dc (on (ls.map (fun x => x.2))) := OO.kids
    have hwW : w.heap.size ≤ W4.heap.size := by omega
    refine ⟨H6.out.2.1.fresh oN hnbw, by rw [List.append_nil]; exact H6.out.1.other (xs := []) oN ⟨_, H6.out.2.2.2.1⟩ (by decide) (by decide) (Or.inr H6.out.2.2.2.2.2) (by decide) (Or.inl (by decide)), Or.inl rfl, fun _ _ => rfl, fun m k h1 h2 => by rw [List.append_nil] at h2; omega, by rw [List.append_nil, List.length_cons]; omega, by rw [List.length_cons]; omega, kN7, ⟨OO.keys.mono hwW, OO.vals.mono hwW, hOk.mono hwW, OO.signs.mono hwW⟩, H6.out.2.2.2.2.1.keepT (kpt _ (by decide)), H6.out.2.2.2.2.2, fun m hm k hk he => ?_, List.length_map _, fun m hm => ?_, Or.inl ⟨rfl, [], rfl, fun m hm => absurd hm (Nat.not_lt_zero _), ?_, fun m hm => absurd hm (Nat.not_lt_zero _)⟩⟩
    · rw [List.append_nil] at hm
      have h4 := hsep4.out m hm k he
      have h5 := OO.kids
      rw [hk] at h5
      have h6 := h5.blk.1
      omega
    · by_cases h : m < ls.length
      · simp [List.getD, List.getElem?_eq_getElem h]
      · simp [List.getD, List.getElem?_eq_none (show ls.length ≤ m by omega), d0]
    · simp [preK]
  have HI0 : Hid _ := hIB7
  clear hIB7 kpt kN7 eN oN hK
  go_upto_region 17 with fail
  generalize W6.setCell ⟨nb, 0, none⟩ (.int .i64 (i : Int)) = W7 at *
  clear cT4 fT4 cN0 fN0 H6 HRES hin
  go_wp2_with fail
  go_loopw [14] (fun x wr => LpE P B0 g sb N rt f steps i vs w ns nv na seen tall nb v5 ls x wr) (fun x _ => ls.length - (intOf x).toNat)
  case atStart => exact ⟨0, _, _, _, _, _, _, _, _, rfl, Nat.zero_le _, HI0.out⟩
  case round =>
    clear HI0
    obtain ⟨j, kd, ms, nv1, na1, nc1, seen1, tall1, bad1, rfl, hj, I⟩ := hrel
    obtain ⟨wR, hwX⟩ : ∃ wX, wX = wr := ⟨_, rfl⟩
    subst hwX
    have cN4 : wR.cell? ⟨nb, 4, none⟩ = some (.slice v5.da kd.length v5.dc) := I.blk.cell 4
    have cT4 : wR.cell? ⟨g, 4, none⟩ = some (.bool bad1) := I.st.blk.cell 4
    have hkl := I.len
    have HKL : Hid (kd.length = ls.length) := hkl
    have HI : Hid _ := I
    have hsl1 := I.st.ok.le
    have hle1 := I.le
    have hll : kd.length ≤ 1048576 := by rw [I.len]; exact hllb
    clear I
    by_cases hlt : j < ls.length
    · have hlt' : (j : Int) < (kd.length : Int) := by omega
      clear hkl
      cases bad1 with
      | true =>
        have HX : Hid (true = true ∨ j = ls.length) := Or.inl rfl
        go_upto_region 21 with fail
        clear cN4 cT4
        have drp : Below wR.heap.size wR wR.drew := ⟨rfl, rfl, rfl, Nat.le_refl _, fun _ _ => rfl⟩
        obtain ⟨ns1, hn1⟩ : ∃ l, l = ns ++ ms := ⟨_, rfl⟩
        have std : TSt B0 g sb N rt wR.drew ns1 nv1 na1 nc1 seen1 tall1 true := by rw [hn1]; exact HI.out.st.belowT drp
        have hnl : ns1.length ≤ 1048576 := by rw [hn1]; have := HI.out.le; have := HI.out.st.ok.le; omega
        have HN1 : Hid _ := hn1
        clear hn1
        have kNd := HI.out.blk.below drp
        have Od := HI.out.own.below drp
        have KEY : Hid (∀ u : World, Blk u 257 nb (ndc v5 (kidN i ls kd)) → (Instr.loadAt 257 (.pointer (some ⟨nb, 0, none⟩))).run Tryz.prog u = .ok (.agg (ndc v5 (kidN i ls kd)).toArray) u) := fun u hu => by
          simp only [Instr.loadAt, Instr.sureAddr, Sem.run_bind, Sem.run_pure, Result.andThen]
          exact run_loadVar_row u nb 257 257 (ndc v5 (kidN i ls kd)).toArray (0, 0) _ hu Tryz.underlying257 rfl sizeNd
        have fd : Fr3 g sb na w wR.drew := HI.out.fr.trans (Fr3.ofBelow (na := na1) drp) HI.out.na
        refine wp_regionD (fun u => u.cell? ⟨g, 0, none⟩ = some (.slice na1 ns1.length nc1) ∧ (Instr.loadAt 257 (.pointer (some ⟨nb, 0, none⟩))).run Tryz.prog u = .ok (.agg (ndc v5 (kidN i ls kd)).toArray) u) (fun k => decide (8 ≤ k)) (by kernel_rfl) ?_
        generalize wR.drew = WDp at *
        have cs : WDp.cell? ⟨g, 0, none⟩ = some (.slice na1 ns1.length nc1) ∧ (Instr.loadAt 257 (.pointer (some ⟨nb, 0, none⟩))).run Tryz.prog WDp = .ok (.agg (ndc v5 (kidN i ls kd)).toArray) WDp := ⟨std.blk.cell 0, KEY.out _ kNd⟩
        have q7 : Below WDp.heap.size WDp (WDp.alloc (Obj.cells (ndc v5 (kidN i ls kd)).toArray 257)) := (Below.refl _ _).alloc (Nat.le_refl _) _
        have cs7 : (WDp.alloc (Obj.cells (ndc v5 (kidN i ls kd)).toArray 257)).cell? ⟨g, 0, none⟩ = some (.slice na1 ns1.length nc1) ∧ (Instr.loadAt 257 (.pointer (some ⟨nb, 0, none⟩))).run Tryz.prog (WDp.alloc (Obj.cells (ndc v5 (kidN i ls kd)).toArray 257)) = .ok (.agg (ndc v5 (kidN i ls kd)).toArray) (WDp.alloc (Obj.cells (ndc v5 (kidN i ls kd)).toArray 257)) := ⟨(std.belowT q7).blk.cell 0, KEY.out _ (kNd.below q7)⟩
        have hBd : B0 ≤ WDp.heap.size := std.gB
        have HSd : Hid _ := And.intro std (And.intro fd Od)
        have HK7 : Hid _ := kNd.below q7
        clear std fd Od kNd q7 drp
        refine wpAnyD_takeT 0 129 (v := ?vvp0) rfl rfl (by kernel_rfl) (by kernel_rfl) (by kernel_rfl) (by kernel_rfl) (fun _ _ _ h => h) (Or.inl ⟨by rfl, ?hyp0⟩) cs ?restp0
        case hyp0 => (intro w hSw; obtain ⟨h1, h2⟩ := hSw; go_simp; try with_reducible rfl)
        simp only [Act.put, List.setIfInBounds_toArray, List.set_cons_zero, List.set_cons_succ]
        refine wpAnyD_takeT 1 130 (v := ?vvp1) rfl rfl (by kernel_rfl) (by kernel_rfl) (by kernel_rfl) (by kernel_rfl) (fun _ _ _ h => h) (Or.inl ⟨by rfl, ?hyp1⟩) cs ?restp1
        case hyp1 => (intro w hSw; obtain ⟨h1, h2⟩ := hSw; go_simp; try with_reducible rfl)
        simp only [Act.put, List.setIfInBounds_toArray, List.set_cons_zero, List.set_cons_succ]
        refine wpAnyD_takeT 2 131 (v := ?vvp2) rfl rfl (by kernel_rfl) (by kernel_rfl) (by kernel_rfl) (by kernel_rfl) (fun _ _ _ h => h) (Or.inl ⟨by rfl, ?hyp2⟩) cs ?restp2
        case hyp2 => (intro w hSw; obtain ⟨h1, h2⟩ := hSw; go_simp; try with_reducible rfl)
        simp only [Act.put, List.setIfInBounds_toArray, List.set_cons_zero, List.set_cons_succ]
        refine wpAnyD_takeT 3 132 (v := ?vvp3) rfl rfl (by kernel_rfl) (by kernel_rfl) (by kernel_rfl) (by kernel_rfl) (fun _ _ _ h => h) (Or.inl ⟨by rfl, ?hyp3⟩) cs ?restp3
        case hyp3 => (intro w hSw; obtain ⟨h1, h2⟩ := hSw; go_simp; try with_reducible rfl)
        simp only [Act.put, List.setIfInBounds_toArray, List.set_cons_zero, List.set_cons_succ]
        refine wpAnyD_takeT 4 133 (v := ?vvp4) rfl rfl (by kernel_rfl) (by kernel_rfl) (by kernel_rfl) (by kernel_rfl) (fun _ _ _ h => h) (Or.inl ⟨by rfl, ?hyp4⟩) cs ?restp4
        case hyp4 => (intro w hSw; obtain ⟨h1, h2⟩ := hSw; go_simp; try with_reducible rfl)
        simp only [Act.put, List.setIfInBounds_toArray, List.set_cons_zero, List.set_cons_succ]
        refine wpAnyD_takeT 5 134 (v := .agg (ndc v5 (kidN i ls kd)).toArray) rfl rfl (by kernel_rfl) (by kernel_rfl) (by kernel_rfl) (by kernel_rfl) (fun _ _ _ h => h) (Or.inl ⟨by rfl, ?hyp5⟩) cs ?restp5
        case hyp5 => exact fun u hSw => yield_load (p := .pointer (some ⟨nb, 0, none⟩)) rfl rfl hSw.2
        simp only [Act.put, List.setIfInBounds_toArray, List.set_cons_zero, List.set_cons_succ]
        refine wpAnyD_one 6 (by kernel_rfl) rfl (fun KK hK => ?_)
        rw [if_pos (show Region.wanted _ _ = true from rfl)]
        refine wp_buildSlice_eq1 _ _ _ rfl (v := .slice (some ⟨WDp.heap.size, 0, none⟩) 1 1) (w' := (WDp.alloc (Obj.cells (ndc v5 (kidN i ls kd)).toArray 257))) ?bsp ?_
        case bsp =>
          simp only [List.map_toArray, List.map_cons, List.map_nil]
          exact run_bsRow elNd (by omega) (.agg (ndc v5 (kidN i ls kd)).toArray) (ndc v5 (kidN i ls kd)) rfl rfl WDp
        refine hK.out _ _ (fun _ => cs7) ?_
        clear hK KK
        refine wpAnyD_one 7 (by kernel_rfl) rfl (fun KK hK => ?_)
        rw [if_pos (show Region.wanted _ _ = true from rfl)]
        refine wp_appRowL _ _ elNd rfl B0 na1 ns1.length nc1 (ndsF nv1 ns1) rfl HSd.out.1.nodes (ndc v5 (kidN i ls kd)) rfl (ndc_one _ _) rfl hnl (by omega) hBd ?_
        intro g8 c8 w8 o8 b8 gr8 at8
        have kN8 : Blk w8 257 nb (ndc v5 (kidN i ls kd)) := by
          refine (gr8.block nb (Blk.lt HK7.out) ?_).trans HK7.out
          intro e
          rcases HSd.out.1.nodes.2 with ⟨e1, _⟩ | ⟨g', cap', cur', e1, _⟩
          · rw [e1] at e; simp [Value.ownBlock] at e
          · rw [e1] at e
            simp [Value.ownBlock] at e
            simp only [Value.slice.injEq] at e1
            subst e
            exact HI.out.nan e1.1
        have k8 : Blk w8 207 g _ := HSd.out.1.blk.keepT ((keepT_below ((Below.refl _ _).alloc (Nat.le_refl _) _)).trans (keepT_grown (own_below HSd.out.1.nodes ((Below.refl _ _).alloc (Nat.le_refl _) _)) gr8 (by decide)))
        have c0 : w8.cell? ⟨g, 0, none⟩ = some (.slice na1 ns1.length nc1) := k8.cell 0
        have fz0 := k8.free 0
        refine hK.out _ _ (fun _ => ⟨c0, KEY.out _ kN8⟩) ?_
        clear hK KK
        have st8 := HSd.out.1.push (HSd.out.2.2.mono (Nat.zero_le _)) o8 b8 gr8
        have f8 : Fr3 g sb na w (w8.setCell ⟨g, 0, none⟩ (.slice (some ⟨g8, 0, none⟩) (ns1.length + 1) c8)) := HSd.out.2.1.trans (Fr3.push HSd.out.1.nodes gr8 HSd.out.1.blk.lt) HI.out.na
        have hat : Hid (na1 = some ⟨g8, 0, none⟩ ∨ w.heap.size ≤ g8) := by
          have := HSd.out.2.1.size
          rcases at8 with h | h
          · exact Or.inl h
          · exact Or.inr (by omega)
        have H8 : Hid _ := And.intro st8 f8
        clear st8 f8 k8 o8 b8 gr8 at8 cs7 kN8 HK7 KEY
        refine wpAnyD_one 8 (by kernel_rfl) rfl (fun KK hK => ?_)
        rw [if_pos (show Region.wanted _ _ = true from rfl)]
        go_wp2_with fail
        refine hK.out _ _ (fun h => absurd h (by decide)) ?_
        clear hK KK
        refine wpAnyD_one 9 (by kernel_rfl) rfl (fun KK hK => ?_)
        rw [if_pos (show Region.wanted _ _ = true from rfl)]
        go_wp2_with fail
        refine hK.out _ _ (fun h => absurd h (by decide)) ?_
        clear hK KK
        refine wpAnyD_one 10 (by kernel_rfl) rfl (fun KK hK => ?_)
        rw [if_pos (show Region.wanted _ _ = true from rfl)]
        go_wp2_with fail
        refine hK.out _ _ (fun h => absurd h (by decide)) ?_
        clear hK KK
        refine wpAnyD_done (by kernel_rfl) ?_ _
        clear c0 fz0 cs
        generalize w8.setCell ⟨g, 0, none⟩ (.slice (some ⟨g8, 0, none⟩) (ns1.length + 1) c8) = W9 at *
        have hp : RdP P B0 g sb N rt (f + 1) steps (i : Int) w ns nv na seen tall (.returned (.int .i64 (ns1.length : Nat))) W9 := by
          have a8 := H8.out.1
          rw [HN1.out] at a8 ⊢
          exact rdP_mk (lp_fin HI.out (Or.inl rfl) HIN.out HRT.out a8 H8.out.2 hat.out)
        have HP : Hid _ := hp
        have c9 : W9.cell? ⟨g, 0, none⟩ = some (.slice (some ⟨g8, 0, none⟩) (ns1.length + 1) c8) := (H8.out.1.blk.cell 0).trans (by simp [trc])
        clear hp H8 hat HI
        generalize ns1.length = L at *
        go_wp2_with fail
        go_ret
        first | exact HP.out | (refine (congrArg (fun x => RdP P B0 g sb N rt (f + 1) steps (i : Int) w ns nv na seen tall (.returned (.int .i64 x)) W9) ?_).mp HP.out; simp)
      | false =>
        go_upto_region 20 with fail
        clear cT4
        have oK := HI.out.own.kids
        have hkp : 0 < (kidN i ls kd).kids.length := by show 0 < kd.length; omega
        obtain ⟨kb, hda, hkw, hkbl, _, hkc⟩ := oK.at_ hkp
        have hkj := (hkc j (by show j < kd.length; omega)).trans (congrArg some (on_get kd j (by omega)))
        have HDA : Hid _ := hda
        have HKW : Hid _ := And.intro hkw hkbl
        rw [hda] at cN4
        clear hkc oK hkp hda hkw hkbl
        have drz : Below wR.heap.size wR wR.drew := ⟨rfl, rfl, rfl, Nat.le_refl _, fun _ _ => rfl⟩
        have stz := HI.out.st.belowT drz
        have hbz : OnlyB g w0 wR.drew := (HI.out.fr.onlyG st hB0 hw).trans (Below.onlyB drz g)
        have RC := HIH.out (steps + 1) (kd.getD j 0) (ns ++ ms) nv1 na1 nc1 seen1 tall1 wR.drew hbz stz (by have := HI.out.le2; omega) (by have := HI.out.le; omega)
        rw [show ((steps + 1 : Nat) : Int) = (steps : Int) + 1 by omega] at RC
        have KEY : Hid (∀ u : World, Blk u 249 w.heap.size [vs] → (Instr.loadAt 249 (.pointer (some ⟨w.heap.size, 0, none⟩))).run Tryz.prog u = .ok (.agg #[vs]) u) := fun u hu => by
          simp only [Instr.loadAt, Instr.sureAddr, Sem.run_bind, Sem.run_pure, Result.andThen]
          exact run_loadVar_row u w.heap.size 249 249 #[vs] (0, 0) _ hu Tryz.underlying249 rfl sV
        refine wp_regionD (fun u => u.cell? ⟨nb, 4, none⟩ = some (.slice (some ⟨kb, 0, none⟩) kd.length v5.dc) ∧ u.cell? ⟨kb, j, none⟩ = some (.int .i64 (kd.getD j 0)) ∧ (Instr.loadAt 249 (.pointer (some ⟨w.heap.size, 0, none⟩))).run Tryz.prog u = .ok (.agg #[vs]) u) (fun k => decide (13 ≤ k)) (by kernel_rfl) ?_
        have cs : wR.drew.cell? ⟨nb, 4, none⟩ = some (.slice (some ⟨kb, 0, none⟩) kd.length v5.dc) ∧ wR.drew.cell? ⟨kb, j, none⟩ = some (.int .i64 (kd.getD j 0)) ∧ (Instr.loadAt 249 (.pointer (some ⟨w.heap.size, 0, none⟩))).run Tryz.prog wR.drew = .ok (.agg #[vs]) wR.drew := ⟨cN4, hkj, KEY.out _ (HI.out.vw.below drz)⟩
        have I2 : LpI P B0 g sb N rt f steps i vs w ns nv na seen tall nb v5 ls j kd ms nv1 na1 nc1 seen1 tall1 false wR.drew := HI.out.belowL drz
        clear HI cN4 hkj drz stz hbz
        have HI : Hid _ := I2
        clear I2
        generalize wR.drew = WD at *
        generalize hidk : kd.getD j 0 = idk at *
        have fa1 : IntKind.i64.wrap ((steps : Int) + 1) = (steps : Int) + 1 := by simp [IntKind.wrap, IntKind.bits, IntKind.signed]; omega
        have fa2 : (0 : Int) ≤ (j : Int) := by omega
        refine wpAnyD_takeT 0 115 (v := ?vvz0) rfl rfl (by kernel_rfl) (by kernel_rfl) (by kernel_rfl) (by kernel_rfl) (fun _ _ _ h => h) (Or.inl ⟨by rfl, ?hyz0⟩) cs ?restz0
        case hyz0 => (intro w hSw; obtain ⟨h1, h2, h3⟩ := hSw; go_simp; try with_reducible rfl)
        simp only [Act.put, List.setIfInBounds_toArray, List.set_cons_zero, List.set_cons_succ]
        refine wpAnyD_takeT 1 116 (v := ?vvz1) rfl rfl (by kernel_rfl) (by kernel_rfl) (by kernel_rfl) (by kernel_rfl) (fun _ _ _ h => h) (Or.inl ⟨by rfl, ?hyz1⟩) cs ?restz1
        case hyz1 => (intro w hSw; obtain ⟨h1, h2, h3⟩ := hSw; go_simp; try with_reducible rfl)
        simp only [Act.put, List.setIfInBounds_toArray, List.set_cons_zero, List.set_cons_succ]
        refine wpAnyD_takeT 2 117 (v := ?vvz2) rfl rfl (by kernel_rfl) (by kernel_rfl) (by kernel_rfl) (by kernel_rfl) (fun _ _ _ h => h) (Or.inl ⟨by rfl, ?hyz2⟩) cs ?restz2
        case hyz2 => (intro w hSw; obtain ⟨h1, h2, h3⟩ := hSw; go_simp; try with_reducible rfl)
        simp only [Act.put, List.setIfInBounds_toArray, List.set_cons_zero, List.set_cons_succ]
        refine wpAnyD_takeT 3 118 (v := ?vvz3) rfl rfl (by kernel_rfl) (by kernel_rfl) (by kernel_rfl) (by kernel_rfl) (fun _ _ _ h => h) (Or.inl ⟨by rfl, ?hyz3⟩) cs ?restz3
        case hyz3 => (intro w hSw; obtain ⟨h1, h2, h3⟩ := hSw; go_simp; try with_reducible rfl)
        simp only [Act.put, List.setIfInBounds_toArray, List.set_cons_zero, List.set_cons_succ]
        refine wpAnyD_takeT 4 119 (v := .agg #[vs]) rfl rfl (by kernel_rfl) (by kernel_rfl) (by kernel_rfl) (by kernel_rfl) (fun _ _ _ h => h) (Or.inl ⟨by rfl, ?hyz4⟩) cs ?restz4
        case hyz4 => exact fun u hSw => yield_load (p := .pointer (some ⟨w.heap.size, 0, none⟩)) rfl rfl hSw.2.2
        simp only [Act.put, List.setIfInBounds_toArray, List.set_cons_zero, List.set_cons_succ]
        refine wpAnyD_takeT 5 120 (v := ?vvz5) rfl rfl (by kernel_rfl) (by kernel_rfl) (by kernel_rfl) (by kernel_rfl) (fun _ _ _ h => h) (Or.inl ⟨by rfl, ?hyz5⟩) cs ?restz5
        case hyz5 => (intro w hSw; obtain ⟨h1, h2, h3⟩ := hSw; go_simp; try with_reducible rfl)
        simp only [Act.put, List.setIfInBounds_toArray, List.set_cons_zero, List.set_cons_succ]
        refine wpAnyD_takeT 6 121 (v := ?vvz6) rfl rfl (by kernel_rfl) (by kernel_rfl) (by kernel_rfl) (by kernel_rfl) (fun _ _ _ h => h) (Or.inl ⟨by rfl, ?hyz6⟩) cs ?restz6
        case hyz6 => (intro w hSw; obtain ⟨h1, h2, h3⟩ := hSw; go_simp; try with_reducible rfl)
        simp only [Act.put, List.setIfInBounds_toArray, List.set_cons_zero, List.set_cons_succ]
        refine wpAnyD_takeT 7 122 (v := ?vvz7) rfl rfl (by kernel_rfl) (by kernel_rfl) (by kernel_rfl) (by kernel_rfl) (fun _ _ _ h => h) (Or.inl ⟨by rfl, ?hyz7⟩) cs ?restz7
        case hyz7 => (intro w hSw; obtain ⟨h1, h2, h3⟩ := hSw; go_simp; try with_reducible rfl)
        simp only [Act.put, List.setIfInBounds_toArray, List.set_cons_zero, List.set_cons_succ]
        refine wpAnyD_takeT 8 123 (v := ?vvz8) rfl rfl (by kernel_rfl) (by kernel_rfl) (by kernel_rfl) (by kernel_rfl) (fun _ _ _ h => h) (Or.inl ⟨by rfl, ?hyz8⟩) cs ?restz8
        case hyz8 => (intro w hSw; obtain ⟨h1, h2, h3⟩ := hSw; go_simp; try with_reducible rfl)
        simp only [Act.put, List.setIfInBounds_toArray, List.set_cons_zero, List.set_cons_succ]
        refine wpAnyD_takeT 9 124 (v := ?vvz9) rfl rfl (by kernel_rfl) (by kernel_rfl) (by kernel_rfl) (by kernel_rfl) (fun _ _ _ h => h) (Or.inl ⟨by rfl, ?hyz9⟩) cs ?restz9
        case hyz9 => (intro w hSw; obtain ⟨h1, h2, h3⟩ := hSw; go_simp; try with_reducible rfl)
        simp only [Act.put, List.setIfInBounds_toArray, List.set_cons_zero, List.set_cons_succ]
        refine wpAnyD_takeT 10 125 (v := ?vvz10) rfl rfl (by kernel_rfl) (by kernel_rfl) (by kernel_rfl) (by kernel_rfl) (fun _ _ _ h => h) (Or.inl ⟨by rfl, ?hyz10⟩) cs ?restz10
        case hyz10 => (intro w hSw; obtain ⟨h1, h2, h3⟩ := hSw; go_simp; try with_reducible rfl)
        simp only [Act.put, List.setIfInBounds_toArray, List.set_cons_zero, List.set_cons_succ]
        refine wpAnyD_takeT 11 126 (v := ?vvz11) rfl rfl (by kernel_rfl) (by kernel_rfl) (by kernel_rfl) (by kernel_rfl) (fun _ _ _ h => h) (Or.inl ⟨by rfl, ?hyz11⟩) cs ?restz11
        case hyz11 => (intro w hSw; obtain ⟨h1, h2, h3⟩ := hSw; go_simp; try with_reducible rfl)
        simp only [Act.put, List.setIfInBounds_toArray, List.set_cons_zero, List.set_cons_succ]
        clear fa1 fa2
        refine wpAnyD_one 12 (by kernel_rfl) rfl (fun KK hK => ?_)
        rw [if_pos (show Region.wanted _ _ = true from rfl)]
        go_wp2_with fail
        refine RC.mono ?_
        rintro e w6 hQ
        obtain ⟨p, ms2, nv2, na2, nc2, seen2, tall2, bad2, rfl, Q⟩ := hQ
        rw [← hidk] at Q
        have AF := HI.out.after Q.fr
        have oK6 := AF.2.1.kids
        rw [HDA.out] at oK6
        obtain ⟨_, e1, _, _, _, hkc⟩ := oK6.at_ (by show 0 < kd.length; omega)
        cases e1
        have ckb := (hkc j (by show j < kd.length; omega)).trans (congrArg some (on_get kd j (by omega)))
        have fkb := oK6.free j
        rw [hidk] at ckb
        have cn6 : w6.cell? ⟨nb, 4, none⟩ = some (.slice (some ⟨kb, 0, none⟩) kd.length v5.dc) := by rw [← HDA.out]; exact AF.1.cell 4
        have cs6 : w6.cell? ⟨nb, 4, none⟩ = some (.slice (some ⟨kb, 0, none⟩) kd.length v5.dc) ∧ w6.cell? ⟨kb, j, none⟩ = some (.int .i64 idk) ∧ (Instr.loadAt 249 (.pointer (some ⟨w.heap.size, 0, none⟩))).run Tryz.prog w6 = .ok (.agg #[vs]) w6 := ⟨cn6, ckb, KEY.out _ AF.2.2⟩
        have I3 := HI.out.step hlt HDA.out hnbw Q
        have HI3 : Hid _ := I3
        clear I3 Q AF oK6 hkc RC HI cn6
        go_wp2_with fail
        refine hK.out _ _ (fun _ => cs6) ?_
        clear hK KK
        refine wpAnyD_one 13 (by kernel_rfl) rfl (fun KK hK => ?_)
        rw [if_pos (show Region.wanted _ _ = true from rfl)]
        go_wp2_with fail
        refine hK.out _ _ (fun h => absurd h (by decide)) ?_
        clear hK KK
        refine wpAnyD_one 14 (by kernel_rfl) rfl (fun KK hK => ?_)
        rw [if_pos (show Region.wanted _ _ = true from rfl)]
        go_wp2_with fail
        refine hK.out _ _ (fun h => absurd h (by decide)) ?_
        clear hK KK
        refine wpAnyD_done (by kernel_rfl) ?_ _
        clear cs cs6 ckb fkb
        go_wp2
        go_roundw
        case rel => exact ⟨j + 1, _, _, _, _, _, _, _, _, by go_num, by omega, HI3.out⟩
        case measure => simp [intOf]; omega
    · have hje : j = ls.length := by omega
      have hlt' : ¬ (j : Int) < (kd.length : Int) := by omega
      have HX : Hid (bad1 = true ∨ j = ls.length) := Or.inr hje
      clear hkl hje
      go_upto_region 21 with fail
      clear cN4 cT4
      have drq : Below wR.heap.size wR wR.drew := ⟨rfl, rfl, rfl, Nat.le_refl _, fun _ _ => rfl⟩
      obtain ⟨ns1, hn1⟩ : ∃ l, l = ns ++ ms := ⟨_, rfl⟩
      have std : TSt B0 g sb N rt wR.drew ns1 nv1 na1 nc1 seen1 tall1 bad1 := by rw [hn1]; exact HI.out.st.belowT drq
      have hnl : ns1.length ≤ 1048576 := by rw [hn1]; have := HI.out.le; have := HI.out.st.ok.le; omega
      have HN1 : Hid _ := hn1
      clear hn1
      have kNd := HI.out.blk.below drq
      have Od := HI.out.own.below drq
      have KEY : Hid (∀ u : World, Blk u 257 nb (ndc v5 (kidN i ls kd)) → (Instr.loadAt 257 (.pointer (some ⟨nb, 0, none⟩))).run Tryz.prog u = .ok (.agg (ndc v5 (kidN i ls kd)).toArray) u) := fun u hu => by
        simp only [Instr.loadAt, Instr.sureAddr, Sem.run_bind, Sem.run_pure, Result.andThen]
        exact run_loadVar_row u nb 257 257 (ndc v5 (kidN i ls kd)).toArray (0, 0) _ hu Tryz.underlying257 rfl sizeNd
      have fd : Fr3 g sb na w wR.drew := HI.out.fr.trans (Fr3.ofBelow (na := na1) drq) HI.out.na
      refine wp_regionD (fun u => u.cell? ⟨g, 0, none⟩ = some (.slice na1 ns1.length nc1) ∧ (Instr.loadAt 257 (.pointer (some ⟨nb, 0, none⟩))).run Tryz.prog u = .ok (.agg (ndc v5 (kidN i ls kd)).toArray) u) (fun k => decide (8 ≤ k)) (by kernel_rfl) ?_
      generalize wR.drew = WDq at *
      have cs : WDq.cell? ⟨g, 0, none⟩ = some (.slice na1 ns1.length nc1) ∧ (Instr.loadAt 257 (.pointer (some ⟨nb, 0, none⟩))).run Tryz.prog WDq = .ok (.agg (ndc v5 (kidN i ls kd)).toArray) WDq := ⟨std.blk.cell 0, KEY.out _ kNd⟩
      have q7 : Below WDq.heap.size WDq (WDq.alloc (Obj.cells (ndc v5 (kidN i ls kd)).toArray 257)) := (Below.refl _ _).alloc (Nat.le_refl _) _
      have cs7 : (WDq.alloc (Obj.cells (ndc v5 (kidN i ls kd)).toArray 257)).cell? ⟨g, 0, none⟩ = some (.slice na1 ns1.length nc1) ∧ (Instr.loadAt 257 (.pointer (some ⟨nb, 0, none⟩))).run Tryz.prog (WDq.alloc (Obj.cells (ndc v5 (kidN i ls kd)).toArray 257)) = .ok (.agg (ndc v5 (kidN i ls kd)).toArray) (WDq.alloc (Obj.cells (ndc v5 (kidN i ls kd)).toArray 257)) := ⟨(std.belowT q7).blk.cell 0, KEY.out _ (kNd.below q7)⟩
      have hBd : B0 ≤ WDq.heap.size := std.gB
      have HSd : Hid _ := And.intro std (And.intro fd Od)
      have HK7 : Hid _ := kNd.below q7
      clear std fd Od kNd q7 drq
      refine wpAnyD_takeT 0 129 (v := ?vvq0) rfl rfl (by kernel_rfl) (by kernel_rfl) (by kernel_rfl) (by kernel_rfl) (fun _ _ _ h => h) (Or.inl ⟨by rfl, ?hyq0⟩) cs ?restq0
      case hyq0 => (intro w hSw; obtain ⟨h1, h2⟩ := hSw; go_simp; try with_reducible rfl)
      simp only [Act.put, List.setIfInBounds_toArray, List.set_cons_zero, List.set_cons_succ]
      refine wpAnyD_takeT 1 130 (v := ?vvq1) rfl rfl (by kernel_rfl) (by kernel_rfl) (by kernel_rfl) (by kernel_rfl) (fun _ _ _ h => h) (Or.inl ⟨by rfl, ?hyq1⟩) cs ?restq1
      case hyq1 => (intro w hSw; obtain ⟨h1, h2⟩ := hSw; go_simp; try with_reducible rfl)
      simp only [Act.put, List.setIfInBounds_toArray, List.set_cons_zero, List.set_cons_succ]
      refine wpAnyD_takeT 2 131 (v := ?vvq2) rfl rfl (by kernel_rfl) (by kernel_rfl) (by kernel_rfl) (by kernel_rfl) (fun _ _ _ h => h) (Or.inl ⟨by rfl, ?hyq2⟩) cs ?restq2
      case hyq2 => (intro w hSw; obtain ⟨h1, h2⟩ := hSw; go_simp; try with_reducible rfl)
      simp only [Act.put, List.setIfInBounds_toArray, List.set_cons_zero, List.set_cons_succ]
      refine wpAnyD_takeT 3 132 (v := ?vvq3) rfl rfl (by kernel_rfl) (by kernel_rfl) (by kernel_rfl) (by kernel_rfl) (fun _ _ _ h => h) (Or.inl ⟨by rfl, ?hyq3⟩) cs ?restq3
      case hyq3 => (intro w hSw; obtain ⟨h1, h2⟩ := hSw; go_simp; try with_reducible rfl)
      simp only [Act.put, List.setIfInBounds_toArray, List.set_cons_zero, List.set_cons_succ]
      refine wpAnyD_takeT 4 133 (v := ?vvq4) rfl rfl (by kernel_rfl) (by kernel_rfl) (by kernel_rfl) (by kernel_rfl) (fun _ _ _ h => h) (Or.inl ⟨by rfl, ?hyq4⟩) cs ?restq4
      case hyq4 => (intro w hSw; obtain ⟨h1, h2⟩ := hSw; go_simp; try with_reducible rfl)
      simp only [Act.put, List.setIfInBounds_toArray, List.set_cons_zero, List.set_cons_succ]
      refine wpAnyD_takeT 5 134 (v := .agg (ndc v5 (kidN i ls kd)).toArray) rfl rfl (by kernel_rfl) (by kernel_rfl) (by kernel_rfl) (by kernel_rfl) (fun _ _ _ h => h) (Or.inl ⟨by rfl, ?hyq5⟩) cs ?restq5
      case hyq5 => exact fun u hSw => yield_load (p := .pointer (some ⟨nb, 0, none⟩)) rfl rfl hSw.2
      simp only [Act.put, List.setIfInBounds_toArray, List.set_cons_zero, List.set_cons_succ]
      refine wpAnyD_one 6 (by kernel_rfl) rfl (fun KK hK => ?_)
      rw [if_pos (show Region.wanted _ _ = true from rfl)]
      refine wp_buildSlice_eq1 _ _ _ rfl (v := .slice (some ⟨WDq.heap.size, 0, none⟩) 1 1) (w' := (WDq.alloc (Obj.cells (ndc v5 (kidN i ls kd)).toArray 257))) ?bsq ?_
      case bsq =>
        simp only [List.map_toArray, List.map_cons, List.map_nil]
        exact run_bsRow elNd (by omega) (.agg (ndc v5 (kidN i ls kd)).toArray) (ndc v5 (kidN i ls kd)) rfl rfl WDq
      refine hK.out _ _ (fun _ => cs7) ?_
      clear hK KK
      refine wpAnyD_one 7 (by kernel_rfl) rfl (fun KK hK => ?_)
      rw [if_pos (show Region.wanted _ _ = true from rfl)]
      refine wp_appRowL _ _ elNd rfl B0 na1 ns1.length nc1 (ndsF nv1 ns1) rfl HSd.out.1.nodes (ndc v5 (kidN i ls kd)) rfl (ndc_one _ _) rfl hnl (by omega) hBd ?_
      intro g8 c8 w8 o8 b8 gr8 at8
      have kN8 : Blk w8 257 nb (ndc v5 (kidN i ls kd)) := by
        refine (gr8.block nb (Blk.lt HK7.out) ?_).trans HK7.out
        intro e
        rcases HSd.out.1.nodes.2 with ⟨e1, _⟩ | ⟨g', cap', cur', e1, _⟩
        · rw [e1] at e; simp [Value.ownBlock] at e
        · rw [e1] at e
          simp [Value.ownBlock] at e
          simp only [Value.slice.injEq] at e1
          subst e
          exact HI.out.nan e1.1
      have k8 : Blk w8 207 g _ := HSd.out.1.blk.keepT ((keepT_below ((Below.refl _ _).alloc (Nat.le_refl _) _)).trans (keepT_grown (own_below HSd.out.1.nodes ((Below.refl _ _).alloc (Nat.le_refl _) _)) gr8 (by decide)))
      have c0 : w8.cell? ⟨g, 0, none⟩ = some (.slice na1 ns1.length nc1) := k8.cell 0
      have fz0 := k8.free 0
      refine hK.out _ _ (fun _ => ⟨c0, KEY.out _ kN8⟩) ?_
      clear hK KK
      have st8 := HSd.out.1.push (HSd.out.2.2.mono (Nat.zero_le _)) o8 b8 gr8
      have f8 : Fr3 g sb na w (w8.setCell ⟨g, 0, none⟩ (.slice (some ⟨g8, 0, none⟩) (ns1.length + 1) c8)) := HSd.out.2.1.trans (Fr3.push HSd.out.1.nodes gr8 HSd.out.1.blk.lt) HI.out.na
      have hat : Hid (na1 = some ⟨g8, 0, none⟩ ∨ w.heap.size ≤ g8) := by
        have := HSd.out.2.1.size
        rcases at8 with h | h
        · exact Or.inl h
        · exact Or.inr (by omega)
      have H8 : Hid _ := And.intro st8 f8
      clear st8 f8 k8 o8 b8 gr8 at8 cs7 kN8 HK7 KEY
      refine wpAnyD_one 8 (by kernel_rfl) rfl (fun KK hK => ?_)
      rw [if_pos (show Region.wanted _ _ = true from rfl)]
      go_wp2_with fail
      refine hK.out _ _ (fun h => absurd h (by decide)) ?_
      clear hK KK
      refine wpAnyD_one 9 (by kernel_rfl) rfl (fun KK hK => ?_)
      rw [if_pos (show Region.wanted _ _ = true from rfl)]
      go_wp2_with fail
      refine hK.out _ _ (fun h => absurd h (by decide)) ?_
      clear hK KK
      refine wpAnyD_one 10 (by kernel_rfl) rfl (fun KK hK => ?_)
      rw [if_pos (show Region.wanted _ _ = true from rfl)]
      go_wp2_with fail
      refine hK.out _ _ (fun h => absurd h (by decide)) ?_
      clear hK KK
      refine wpAnyD_done (by kernel_rfl) ?_ _
      clear c0 fz0 cs
      generalize w8.setCell ⟨g, 0, none⟩ (.slice (some ⟨g8, 0, none⟩) (ns1.length + 1) c8) = W9 at *
      have hp : RdP P B0 g sb N rt (f + 1) steps (i : Int) w ns nv na seen tall (.returned (.int .i64 (ns1.length : Nat))) W9 := by
        have a8 := H8.out.1
        rw [HN1.out] at a8 ⊢
        exact rdP_mk (lp_fin HI.out HX.out HIN.out HRT.out a8 H8.out.2 hat.out)
      have HP : Hid _ := hp
      have c9 : W9.cell? ⟨g, 0, none⟩ = some (.slice (some ⟨g8, 0, none⟩) (ns1.length + 1) c8) := (H8.out.1.blk.cell 0).trans (by simp [trc])
      clear hp H8 hat HI
      generalize ns1.length = L at *
      go_wp2_with fail
      go_ret
      first | exact HP.out | (refine (congrArg (fun x => RdP P B0 g sb N rt (f + 1) steps (i : Int) w ns nv na seen tall (.returned (.int .i64 x)) W9) ?_).mp HP.out; simp)
end Go.Proofs.YtnohmedccbogkaaGreatDoor

