import Derived.Test.YtnohmedccbogkaaGreatDoorCo20
import Derived.Test.YtnohmedccbogkaaGreatDoorCo13
import Derived.Shelf.SortM.Plain
import Derived.Shelf.SortM.SortNone
import Derived.Sort.OwnSortedInts
/- The nodes of a tree, the kids first: the walk. -/
namespace Go.Proofs.YtnohmedccbogkaaGreatDoor
open Go.RowKit
set_option linter.unusedVariables false

theorem elNo : ElT 277 273 1 .nilIface 16 := ⟨Tryz.underlying277, by kernel_rfl, rfl, by omega⟩
theorem methNsL (p : Value) (w : World) : (Go.method 482 299 p "loop.example/s01906/impl.nodes").run Tryz.prog w = .ok (280, p) w := by kernel_rfl
theorem methNsI (p : Value) (w : World) : (Go.method 482 260 p "loop.example/s01906/impl.nodes").run Tryz.prog w = .ok (271, p) w := by kernel_rfl
theorem sizeKd : (Tryz.prog.info? 276).map (·.size) = some 2 := by kernel_rfl
theorem getD_appL {α : Type} {l m : List α} {i : Nat} {d : α} (h : i < l.length) : (l ++ m).getD i d = l.getD i d := by simp [List.getD, List.getElem?_append_left h]
/-- What stands behind nodes. -/
structure NsQ (B : Nat) (w : World) (a : Option Addr) (n : Nat) (xs : List Value) (ids : List Int) (a' : Option Addr) (c' : Nat) (vals : List Value) (w' : World) : Prop where
  own : Own1 273 B w' a' (n + vals.length) c' (xs ++ vals)
  fr : OnlyS (fun k => k ∈ rb a) w w'
  low : ∀ k ∈ rb a', k < w.heap.size → k ∈ rb a
  keep : ∀ t, t ≠ 273 → KeepT t w w'
  len : vals.length = ids.length
  nv : ∀ i, i < vals.length → NVal w' (vals.getD i undef) (ids.getD i 0)
def NsP (B : Nat) (w : World) (a : Option Addr) (n : Nat) (xs : List Value) (ids : List Int) (e : Ending) (w' : World) : Prop :=
  ∃ a' c' vals, e = .returned (.slice a' (n + vals.length) c') ∧ NsQ B w a n xs ids a' c' vals w'
def NsC (t : Tr) : Prop := ∀ (v : Value) (G : List Nat) (w : World) (B : Nat) (a : Option Addr) (n c : Nat) (xs : List Value), IRep w t G [(strOfNums [], v)] → Own1 273 B w a n c xs → B ≤ w.heap.size → n + (pgN t).length ≤ 1048576 →
  ∃ ty p fn, v = .iface ty (.pointer p) ∧ (∀ u, (Go.method 482 ty (.pointer p) "loop.example/s01906/impl.nodes").run Tryz.prog u = .ok (fn, .pointer p) u) ∧ (∀ args u, (callFunc fn args).run Tryz.prog u = .ok (.enter fn args) u) ∧ Calls Tryz.prog fn #[.pointer p, .slice a n c] w (NsP B w a n xs (pgN t))
/-- One node more. -/
theorem NsQ.one {B : Nat} {w wr : World} {a a' : Option Addr} {n c' : Nat} {xs vals : List Value} {ids : List Int} (h : NsQ B w a n xs ids a' c' vals wr) {v : Value} {id : Int} (hv : NVal wr v id) {g c8 : Nat} {w' : World}
    (ho : Own1 273 B w' (some ⟨g, 0, none⟩) (n + vals.length + 1) c8 (xs ++ vals ++ [v])) (hg : (wr.alloc (.cells #[v] 273)).grownBy w' (Value.slice a' (n + vals.length) c').ownBlock) (hat : a' = some ⟨g, 0, none⟩ ∨ wr.heap.size < g) : NsQ B w a n xs (ids ++ [id]) (some ⟨g, 0, none⟩) c8 (vals ++ [v]) w' := by
  have q : Below wr.heap.size wr (wr.alloc (.cells #[v] 273)) := (Below.refl _ _).alloc (Nat.le_refl _) _
  have hk : ∀ t, t ≠ 273 → KeepT t wr w' := fun t ht => (keepT_below q).trans (keepT_grown (own_below h.own q) hg (Ne.symm ht))
  have hz := h.fr.size
  refine ⟨?_, (h.fr.trans (OnlyS.ofBelow q)).transN (OnlyS.ofGrown hg) (fun k hk e => h.low k (rb_own k e) hk), ?_, fun t ht => (h.keep t ht).trans (hk t ht), by simp [h.len], ?_⟩
  · rw [List.length_append, ← List.append_assoc]
    exact ho
  · intro k hkr hkl
    simp [rb] at hkr
    subst hkr
    rcases hat with e | e
    · exact h.low _ (by rw [e]; simp [rb]) hkl
    · omega
  · intro i hi
    by_cases hlt : i < vals.length
    · have := (h.nv i hlt).keep hk
      rw [getD_appL hlt, getD_appL (by rw [← h.len]; exact hlt)]
      exact this
    · have e : i = vals.length := by rw [List.length_append] at hi; simp at hi; omega
      subst e
      have := hv.keep hk
      simpa [List.getD, h.len] using this

set_option maxHeartbeats 1000000 in
set_option maxRecDepth 100000 in
theorem nodes_leaf (id : Int) (es : List (ByteArray × ByteArray)) : NsC (.leaf id es) := by
  intro v G w B a n c xs hr ho hB hn
  rw [IRep] at hr
  obtain ⟨b, ab, cb, rfl, hv, hblk, _⟩ := hr
  have hv2 : v = lfI b := by simpa using hv
  subst hv2
  refine ⟨_, _, 280, rfl, methNsL _, fun _ _ => rfl, ?_⟩
  have hNV : NVal w (lfI b) id := ⟨b, _, Or.inl ⟨rfl, hblk⟩⟩
  have hQ : NsQ B w a n xs [] a c [] w := ⟨by simpa using ho, OnlyS.refl _ _, fun k hk _ => hk, fun _ _ => KeepT.refl _ _, rfl, fun i hi => absurd hi (Nat.not_lt_zero _)⟩
  have HQ : Hid _ := And.intro hQ hNV
  have hn2 : n ≤ 1048576 := by omega
  clear hQ hNV hn hblk hv
  go_enter Tryz.func280, Tryz.ntmps280
  go_wp2_with (at_builtin; refine wpList_app1L rfl _ _ elNo rfl B a n c xs rfl ho (lfI b) rfl rfl hn2 (by omega) hB ?_)
  intro g c8 w8 o8 b8 g8 at8
  go_wp2
  go_ret
  exact ⟨_, _, [lfI b], rfl, HQ.out.1.one HQ.out.2 (by simpa using o8) g8 at8⟩
theorem kdF_ok (us : List (ByteArray × Value)) (n : Nat) (h : ∀ i, i < n → (us.getD i k0).2.oneCell' = true) : IsRow 2 (kdF us) n := ⟨fun _ _ => rfl, fun i hi u hu => by simp [kdF] at hu; rcases hu with rfl | rfl; rfl; exact h i hi⟩
theorem pgN_pos : ∀ t : Tr, isT t = true → 1 ≤ (pgN t).length
  | .leaf _ _, _ => by simp [pgN]
  | .node _ _, _ => by simp [pgN]
  | .nil, h => by simp [isT] at h
  | .cons _ _ _, h => by simp [isT] at h
theorem klist_len : ∀ ks : Tr, isT ks = false → ∀ b, full ks b → (klist ks).length ≤ (pgN ks).length
  | .leaf _ _, h, _, _ => by simp [isT] at h
  | .node _ _, h, _, _ => by simp [isT] at h
  | .nil, _, _, _ => by simp [klist]
  | .cons s t ks, _, b, hf => by
    rw [full] at hf
    have h1 := pgN_pos t hf.2.1
    have h2 := klist_len ks hf.2.2.1 false hf.2.2.2.2
    rw [pgN, klist, List.length_append, List.length_cons]
    omega
theorem pgNL_le (L : List (ByteArray × Tr)) (i : Nat) : (pgNL (L.take i)).length ≤ (pgNL L).length := by
  have e : pgNL L = pgNL (L.take i) ++ pgNL (L.drop i) := by
    unfold pgNL
    rw [← List.flatMap_append, List.take_append_drop]
  rw [e, List.length_append]
  omega
theorem NsQ.trans {B : Nat} {w wr W2 w' : World} {a a' a2 : Option Addr} {n c' c2 : Nat} {xs vals vals2 : List Value} {ids ids2 : List Int} (h : NsQ B w a n xs ids a' c' vals wr) (q : Below wr.heap.size wr W2) (h2 : NsQ B W2 a' (n + vals.length) (xs ++ vals) ids2 a2 c2 vals2 w') : NsQ B w a n xs (ids ++ ids2) a2 c2 (vals ++ vals2) w' := by
  have hz := h.fr.size
  have hz2 := q.size
  refine ⟨?_, (h.fr.trans (OnlyS.ofBelow q)).transN h2.fr (fun k hk e => h.low k e hk), fun k hk hkl => h.low k (h2.low k hk (by omega)) hkl, fun t ht => ((h.keep t ht).trans (keepT_below q)).trans (h2.keep t ht), by rw [List.length_append, List.length_append, h.len, h2.len], ?_⟩
  · rw [List.length_append, ← List.append_assoc, ← Nat.add_assoc]
    exact h2.own
  · intro i hi
    by_cases hlt : i < vals.length
    · have := ((h.nv i hlt).keep (fun t _ => keepT_below q)).keep h2.keep
      rw [getD_appL hlt, getD_appL (by rw [← h.len]; exact hlt)]
      exact this
    · have h3 := h2.nv (i - vals.length) (by rw [List.length_append] at hi; omega)
      have e1 : (vals ++ vals2).getD i undef = vals2.getD (i - vals.length) undef := by simp [List.getD, List.getElem?_append_right (Nat.le_of_not_lt hlt)]
      have e2 : (ids ++ ids2).getD i 0 = ids2.getD (i - vals.length) 0 := by rw [h.len]; simp [List.getD, List.getElem?_append_right (show ids.length ≤ i by have := h.len; omega)]
      rw [e1, e2]
      exact h3

set_option maxHeartbeats 2000000 in
set_option maxRecDepth 100000 in
theorem nodes_inner (id : Int) (ks : Tr) (hT : isT ks = false) (bb : Bool) (hf : full ks bb) (IH : ∀ i, i < (klist ks).length → NsC ((klist ks).getD i t0).2) : NsC (.node id ks) := by
  intro v G w B a n c xs hr ho hB hn
  rw [IRep] at hr
  obtain ⟨b, ak, ck, us, G2, rfl, hv, hblk, hrow, hrep⟩ := hr
  have hv2 : v = inI b := by simpa using hv
  subst hv2
  obtain ⟨hul, hkid⟩ := hrep.kid ks hT bb hf G2 us
  refine ⟨_, _, 271, rfl, methNsI _, fun _ _ => rfl, ?_⟩
  have hpg : pgN (.node id ks) = pgNL (klist ks) ++ [id] := by rw [pgN, pgN_klist ks hT bb hf]
  rw [hpg] at hn ⊢
  rw [List.length_append, List.length_singleton] at hn
  have hLl := klist_len ks hT bb hf
  rw [pgN_klist ks hT bb hf] at hLl
  generalize klist ks = L at *
  have c1 : w.cell? ⟨b, 1, none⟩ = some (.slice ak us.length ck) := hblk.cell 1
  have hQ : NsQ B w a n xs (pgNL (L.take 0)) a c [] w := ⟨by simpa using ho, OnlyS.refl _ _, fun k hk _ => hk, fun _ _ => KeepT.refl _ _, rfl, fun i hi => absurd hi (Nat.not_lt_zero _)⟩
  have HQ : Hid _ := hQ
  have hone : ∀ i, i < us.length → (us.getD i k0).2.oneCell' = true := fun i hi => by
    obtain ⟨Gi, h⟩ := hkid i hi
    obtain ⟨ty, p, fn, e, _⟩ := IH i (by omega) _ Gi w 0 none 0 0 [] h (own1_nil _ _ _) (Nat.zero_le _) (by have := pgNL_take L i (by omega); have h2 := pgNL_le L (i + 1); rw [this, List.length_append] at h2; omega)
    rw [e]
    rfl
  have HK : Hid _ := And.intro hblk (And.intro hrow (And.intro hkid (And.intro IH hone)))
  have hul2 : us.length ≤ 1048576 := by omega
  clear hQ hblk hrow hkid IH ho hv hpg hrep hone
  go_enter Tryz.func271, Tryz.ntmps271
  go_wp2_with fail
  go_loopw [1, 12] (fun s1 s12 wr => ∃ (i : Nat) (a' : Option Addr) (c' : Nat) (vals : List Value), s1 = .slice a' (n + vals.length) c' ∧ s12 = .int .i64 (i : Nat) ∧ i ≤ us.length ∧ NsQ B w a n xs (pgNL (L.take i)) a' c' vals wr) (fun _ s _ => us.length - (intOf s).toNat)
  case atStart => exact ⟨0, a, c, [], rfl, rfl, Nat.zero_le _, HQ.out⟩
  case round =>
    obtain ⟨i, a', c', vals, rfl, rfl, hi, hI⟩ := hrel
    obtain ⟨wR, hwX⟩ : ∃ wX, wX = wr := ⟨_, rfl⟩
    subst hwX
    have hvl := hI.len
    have hwz := hI.fr.size
    by_cases hlt : i < us.length
    · have hlt' : (i : Int) < (us.length : Int) := by omega
      have hp1 := pgNL_take L i (by omega)
      have hp2 := pgNL_le L (i + 1)
      have hp3 := pgNL_le L i
      rw [hp1, List.length_append] at hp2
      have hrR : ORow 276 2 0 wR ak us.length ck (kdF us) := ownsRow_keepT HK.out.2.1 (hI.keep _ (by decide))
      obtain ⟨kb, rfl, _, hkl⟩ := orow_at hrR (by omega)
      have hcl := fun j v hv => (hrR.reads (kdF_ok us _ HK.out.2.2.2.2)).cells i hlt j v hv
      rw [show kdF us i = [.string (us.getD i k0).1, (us.getD i k0).2] from rfl] at hcl
      obtain ⟨Gi, hGi⟩ := HK.out.2.2.1 i hlt
      have IHi := HK.out.2.2.2.1 i (by omega)
      generalize us.getD i k0 = en at *
      obtain ⟨sg, u⟩ := en
      have q2 : Below wR.heap.size wR (wR.alloc (Obj.cells #[.string sg, u] 276)) := (Below.refl _ _).alloc (Nat.le_refl _) _
      obtain ⟨ty, p, fn, hu, hmeth, hent, hcall⟩ := IHi u Gi (wR.alloc (Obj.cells #[.string sg, u] 276)) B a' (n + vals.length) c' (xs ++ vals) ((hGi.keepN hI.keep).below q2) (hI.own.below q2) (by have := q2.size; omega) (by rw [hvl]; omega)
      subst hu
      have cc0 : wR.cell? ⟨kb, i * 2, none⟩ = some (.string sg) := by have := hcl 0 _ rfl; simpa using this
      have cc1 : wR.cell? ⟨kb, i * 2 + 1, none⟩ = some (.iface ty (.pointer p)) := by have := hcl 1 _ rfl; simpa using this
      have kE := blk_new wR 276 #[.string sg, .iface ty (.pointer p)]
      have HI : Hid _ := And.intro hI (And.intro q2 hp1)
      clear hcl hGi IHi hrR hI q2 hp1 HK hvl
      go_upto_region 4 with (first | (refine wpList_storeNew rfl 276 _ _ rfl wR #[.string (strOfNums []), .nilIface] #[.string sg, .iface ty (.pointer p)] 276 rfl rfl sizeKd rfl rfl ?_))
      change Code.wp _ _ _ _ (wR.alloc (Obj.cells #[.string sg, .iface ty (.pointer p)] 276))
      generalize wR.alloc (Obj.cells #[.string sg, .iface ty (.pointer p)] 276) = W2 at *
      generalize heb : wR.heap.size = eb at *
      have c3 : W2.cell? ⟨eb, 1, none⟩ = some (.iface ty (.pointer p)) := Blk.cell kE 1
      clear kE cc0 cc1
      go_wp2_with fail
      refine hcall.mono ?_
      rintro e w8 ⟨a8, c8, vals8, rfl, hQ8⟩
      have h8 := HI.out.1.trans (by rw [heb]; exact HI.out.2.1) hQ8
      rw [← HI.out.2.2] at h8
      have FIN : Hid _ := h8
      clear hcall hQ8 h8
      go_wp2_with fail
      go_roundw
      case rel => exact ⟨i + 1, a8, c8, vals ++ vals8, by rw [List.length_append, Nat.add_assoc], by go_num, by omega, FIN.out⟩
      case measure => simp [intOf]; omega
    · have hie : i = L.length := by omega
      have hnl : ¬ ((i : Int) < (us.length : Int)) := by omega
      have hown := hI.own
      have hNV : NVal wR (inI b) id := ⟨b, _, Or.inr ⟨rfl, HK.out.1.keepT (hI.keep _ (by decide))⟩⟩
      have HI : Hid (NsQ B w a n xs (pgNL L) a' c' vals wR ∧ NVal wR (inI b) id) := ⟨by have := hI; rw [hie, List.take_length] at this; exact this, hNV⟩
      have hp3 := pgNL_le L i
      have hvl2 : n + vals.length ≤ 1048576 := by omega
      clear hI hNV HK hvl
      go_wp2_with (at_builtin; refine wpList_app1L rfl _ _ elNo rfl B a' (n + vals.length) c' (xs ++ vals) rfl hown (inI b) rfl rfl hvl2 (by omega) (by omega) ?_)
      intro g8 c8 w8 o8 b8 gr8 at8
      have FIN : Hid _ := HI.out.1.one HI.out.2 (by rw [List.append_assoc]; exact o8) gr8 at8
      clear o8 b8 gr8 at8 hown
      go_wp2_with fail
      go_ret
      exact ⟨_, _, vals ++ [inI b], by rw [List.length_append]; rfl, FIN.out⟩
theorem nodes_all : ∀ t : Tr, (isT t = true → full t true → NsC t) ∧ (isT t = false → ∀ b, full t b → ∀ i, i < (klist t).length → NsC ((klist t).getD i t0).2)
  | .leaf id es => ⟨fun _ _ => nodes_leaf id es, fun h => by simp [isT] at h⟩
  | .node id ks => ⟨fun _ hf => by
      rw [full] at hf
      have hT : isT ks = false := by obtain ⟨s, t, r, rfl⟩ := hf.1; rfl
      exact nodes_inner id ks hT true hf.2 ((nodes_all ks).2 hT true hf.2), fun h => by simp [isT] at h⟩
  | .nil => ⟨fun h => by simp [isT] at h, fun _ _ _ i hi => by simp [klist] at hi⟩
  | .cons s t ks => ⟨fun h => by simp [isT] at h, fun _ b hf i hi => by
      rw [full] at hf
      cases i with
      | zero => exact (nodes_all t).1 hf.2.1 hf.2.2.2.1
      | succ i => exact (nodes_all ks).2 hf.2.2.1 false hf.2.2.2.2 i (by simpa [klist] using hi)⟩
end Go.Proofs.YtnohmedccbogkaaGreatDoor

/- Numbers that are marked, and numbers that are sorted: the mathematics. -/
namespace Go.Proofs.YtnohmedccbogkaaGreatDoor
open Go.RowKit
set_option linter.unusedVariables false

theorem mOk_iff {M : Nat} : ∀ {ls sn : List Int}, mOk M ls sn = true ↔ (∀ x ∈ ls, 2 ≤ x ∧ x < (M : Int) ∧ x ∉ sn) ∧ ls.Nodup
  | [], sn => by simp [mOk]
  | x :: ls, sn => by
    rw [mOk]
    by_cases h : x < 2 ∨ (M : Int) ≤ x ∨ sn.contains x = true
    · rw [if_pos h]
      constructor
      · intro h; cases h
      · rintro ⟨h1, _⟩
        have := h1 x (List.mem_cons_self)
        rw [List.contains_iff_mem] at h
        rcases h with h | h | h
        · omega
        · omega
        · exact absurd h this.2.2
    · rw [if_neg h, mOk_iff (ls := ls) (sn := x :: sn), List.nodup_cons]
      rw [List.contains_iff_mem] at h
      constructor
      · rintro ⟨h1, h2⟩
        refine ⟨fun y hy => ?_, fun hx => (h1 x hx).2.2 (List.mem_cons_self), h2⟩
        rcases List.mem_cons.1 hy with rfl | hy
        · exact ⟨by omega, by omega, fun hs => h (Or.inr (Or.inr hs))⟩
        · have := h1 y hy
          exact ⟨this.1, this.2.1, fun hs => this.2.2 (List.mem_cons_of_mem _ hs)⟩
      · rintro ⟨h1, h2, h3⟩
        refine ⟨fun y hy => ?_, h3⟩
        have := h1 y (List.mem_cons_of_mem _ hy)
        refine ⟨this.1, this.2.1, fun hs => ?_⟩
        rcases List.mem_cons.1 hs with rfl | hs
        · exact h2 hy
        · exact this.2.2 hs
/-- The numbers from a on, so many. -/
def upF (a : Nat) (n : Nat) : List Int := (List.range n).map fun i => ((a + i : Nat) : Int)
theorem upF_succ (a n : Nat) : upF a (n + 1) = (a : Int) :: upF (a + 1) n := by
  unfold upF
  rw [List.range_succ_eq_map, List.map_cons, List.map_map]
  congr 1
  apply List.map_congr_left
  intro i _
  simp only [Function.comp]
  congr 1
  omega
theorem upF_of : ∀ (a : Nat) (l : List Int), l.Pairwise (· < ·) → (∀ x ∈ l, (a : Int) ≤ x ∧ x < ((a + l.length : Nat) : Int)) → l = upF a l.length
  | a, [], _, _ => rfl
  | a, x :: xs, hp, hb => by
    rw [List.pairwise_cons] at hp
    have hx := hb x List.mem_cons_self
    have hxs := upF_of (a + 1) xs hp.2 (fun y hy => by
      have h1 := hp.1 y hy
      have h2 := hb y (List.mem_cons_of_mem _ hy)
      rw [List.length_cons] at h2
      have h3 := hx.1
      constructor <;> omega)
    have hxa : x = (a : Int) := by
      cases xs with
      | nil => simp at hx; omega
      | cons y ys =>
        rw [List.length_cons, upF_succ] at hxs
        have hy : y = ((a + 1 : Nat) : Int) := (List.cons.inj hxs).1
        have h1 := hp.1 y List.mem_cons_self
        omega
    rw [List.length_cons, upF_succ, ← hxs, hxa]
theorem upF_mem {a n : Nat} {x : Int} : x ∈ upF a n ↔ (a : Int) ≤ x ∧ x < ((a + n : Nat) : Int) := by
  unfold upF
  rw [List.mem_map]
  constructor
  · rintro ⟨i, hi, rfl⟩
    have := List.mem_range.1 hi
    constructor <;> omega
  · rintro ⟨h1, h2⟩
    exact ⟨x.toNat - a, List.mem_range.2 (by omega), by omega⟩
theorem upF_nodup (a n : Nat) : (upF a n).Nodup := by
  unfold upF List.Nodup
  rw [List.pairwise_map]
  exact List.nodup_range.imp (fun h e => h (by omega))
theorem upF_len (a n : Nat) : (upF a n).length = n := by simp [upF]
/-- Sorted, ascending. -/
def srt (l : List Int) : List Int := l.mergeSort fun x y => decide (x ≤ y)
theorem srt_perm (l : List Int) : (srt l).Perm l := List.mergeSort_perm _ _
theorem srt_len (l : List Int) : (srt l).length = l.length := (srt_perm l).length_eq
theorem srt_pw (l : List Int) : (srt l).Pairwise (· ≤ ·) := by
  have := List.pairwise_mergeSort (le := fun x y : Int => decide (x ≤ y)) (fun a b c h1 h2 => by simp at *; omega) (fun a b => by simp; omega) l
  exact this.imp (fun h => by simpa using h)
/-- All the numbers from 2 on, each once. -/
def once (l : List Int) (M : Nat) : Bool := (srt l == upF 2 l.length) && (2 + l.length == M)
theorem once_iff {l : List Int} {M : Nat} : once l M = true ↔ ((∀ x ∈ l, 2 ≤ x ∧ x < (M : Int)) ∧ l.Nodup) ∧ 2 + l.length = M := by
  unfold once
  rw [Bool.and_eq_true, beq_iff_eq, beq_iff_eq]
  constructor
  · rintro ⟨h, hM⟩
    have hp := srt_perm l
    rw [h] at hp
    refine ⟨⟨fun x hx => ?_, hp.nodup_iff.1 (upF_nodup _ _)⟩, hM⟩
    have := upF_mem.1 (hp.mem_iff.2 hx)
    constructor <;> omega
  · rintro ⟨⟨h1, h2⟩, hM⟩
    refine ⟨?_, hM⟩
    have hp := srt_perm l
    have hs : (srt l).Pairwise (· < ·) := by
      have h3 := srt_pw l
      have h4 : (srt l).Nodup := hp.nodup_iff.2 h2
      exact List.Pairwise.imp₂ (fun a b (h : a ≤ b) (k : a ≠ b) => by omega) h3 h4
    have := upF_of 2 (srt l) hs (fun x hx => by
      have := h1 x (hp.mem_iff.1 hx)
      rw [srt_len]
      constructor <;> omega)
    rw [srt_len] at this
    exact this
theorem mkd_mem {sn : List Int} {N : Nat} {x : Int} : x ∈ mkd sn N ↔ x ∈ sn ∧ 0 ≤ x ∧ x < (N : Int) := by
  unfold mkd
  rw [List.mem_map]
  constructor
  · rintro ⟨i, hi, rfl⟩
    rw [List.mem_filter] at hi
    exact ⟨List.contains_iff_mem.1 hi.2, by omega, by have := List.mem_range.1 hi.1; omega⟩
  · rintro ⟨h1, h2, h3⟩
    have e : ((x.toNat : Nat) : Int) = x := by omega
    exact ⟨x.toNat, List.mem_filter.2 ⟨List.mem_range.2 (by omega), by rw [e]; exact List.contains_iff_mem.2 h1⟩, e⟩
theorem mkd_nodup (sn : List Int) (N : Nat) : (mkd sn N).Nodup := by
  unfold mkd List.Nodup
  rw [List.pairwise_map]
  exact (List.nodup_range.filter _).imp (fun h e => h (by omega))
theorem mkd_perm {sn : List Int} {N : Nat} (h1 : ∀ x ∈ sn, 0 ≤ x ∧ x < (N : Int)) (h2 : sn.Nodup) : (mkd sn N).Perm sn := by
  rw [List.perm_ext_iff_of_nodup (mkd_nodup _ _) h2]
  intro x
  rw [mkd_mem]
  exact ⟨fun h => h.1, fun h => ⟨h, h1 x h⟩⟩
/-- What the specification asks of the marks. -/
def mrk (M : Nat) (t f o : List Int) : Bool := mOk M t [] && mOk M f (t.reverse ++ []) && mOk M o (f.reverse ++ (t.reverse ++ [])) && ((mkd (o.reverse ++ (f.reverse ++ (t.reverse ++ []))) M).length + 2 == M)
theorem mrk_once {M : Nat} {t t2 f o : List Int} (ht : t2.Perm t) : mrk M t f o = once (t2 ++ (f ++ o)) M := by
  have hp : (t2 ++ (f ++ o)).Perm (t ++ (f ++ o)) := ht.append_right _
  have e1 : mrk M t f o = true ↔ once (t2 ++ (f ++ o)) M = true := by
    rw [once_iff]
    unfold mrk
    rw [Bool.and_eq_true, Bool.and_eq_true, Bool.and_eq_true, mOk_iff, mOk_iff, mOk_iff, beq_iff_eq, hp.nodup_iff, hp.length_eq]
    have hq : (∀ x ∈ t2 ++ (f ++ o), 2 ≤ x ∧ x < (M : Int)) ↔ (∀ x ∈ t ++ (f ++ o), 2 ≤ x ∧ x < (M : Int)) := ⟨fun h x hx => h x (hp.mem_iff.2 hx), fun h x hx => h x (hp.mem_iff.1 hx)⟩
    rw [hq]
    have hL : (o.reverse ++ (f.reverse ++ (t.reverse ++ []))) = (t ++ (f ++ o)).reverse := by simp
    rw [hL]
    have key : ((((∀ x ∈ t, 2 ≤ x ∧ x < (M : Int) ∧ x ∉ []) ∧ t.Nodup) ∧ (∀ x ∈ f, 2 ≤ x ∧ x < (M : Int) ∧ x ∉ t.reverse ++ []) ∧ f.Nodup) ∧ (∀ x ∈ o, 2 ≤ x ∧ x < (M : Int) ∧ x ∉ f.reverse ++ (t.reverse ++ [])) ∧ o.Nodup) ↔ ((∀ x ∈ t ++ (f ++ o), 2 ≤ x ∧ x < (M : Int)) ∧ (t ++ (f ++ o)).Nodup) := by
      simp only [List.nodup_append, List.mem_append, List.append_nil, List.mem_reverse, not_or]
      constructor
      · rintro ⟨⟨⟨a1, a2⟩, b1, b2⟩, c1, c2⟩
        refine ⟨fun x hx => ?_, a2, ⟨b2, c2, ?_⟩, ?_⟩
        · rcases hx with h | h | h
          · exact ⟨(a1 x h).1, (a1 x h).2.1⟩
          · exact ⟨(b1 x h).1, (b1 x h).2.1⟩
          · exact ⟨(c1 x h).1, (c1 x h).2.1⟩
        · rintro x hx y hy rfl
          exact (c1 x hy).2.2.1 hx
        · rintro x hx y hy rfl
          rcases hy with h | h
          · exact (b1 x h).2.2 hx
          · exact (c1 x h).2.2.2 hx
      · rintro ⟨h, a2, ⟨b2, c2, bc⟩, abc⟩
        exact ⟨⟨⟨fun x hx => ⟨(h x (Or.inl hx)).1, (h x (Or.inl hx)).2, List.not_mem_nil⟩, a2⟩, fun x hx => ⟨(h x (Or.inr (Or.inl hx))).1, (h x (Or.inr (Or.inl hx))).2, fun hy => abc x hy x (Or.inl hx) rfl⟩, b2⟩, fun x hx => ⟨(h x (Or.inr (Or.inr hx))).1, (h x (Or.inr (Or.inr hx))).2, fun hy => bc x hy x hx rfl, fun hy => abc x hy x (Or.inr hx) rfl⟩, c2⟩
    rw [key]
    constructor
    · rintro ⟨⟨h1, h2⟩, h3⟩
      refine ⟨⟨h1, h2⟩, ?_⟩
      have := (mkd_perm (sn := (t ++ (f ++ o)).reverse) (N := M) (fun x hx => by have := h1 x (List.mem_reverse.1 hx); constructor <;> omega) ((List.reverse_perm _).nodup_iff.2 h2)).length_eq
      rw [List.length_reverse] at this
      omega
    · rintro ⟨⟨h1, h2⟩, h3⟩
      refine ⟨⟨h1, h2⟩, ?_⟩
      have := (mkd_perm (sn := (t ++ (f ++ o)).reverse) (N := M) (fun x hx => by have := h1 x (List.mem_reverse.1 hx); constructor <;> omega) ((List.reverse_perm _).nodup_iff.2 h2)).length_eq
      rw [List.length_reverse] at this
      omega
  cases h1 : mrk M t f o <;> cases h2 : once (t2 ++ (f ++ o)) M <;> simp_all
end Go.Proofs.YtnohmedccbogkaaGreatDoor

/- slices.Sort at numbers, and whether they are all there once. -/
namespace Go.Proofs.YtnohmedccbogkaaGreatDoor
open Go.RowKit
set_option linter.unusedVariables false

/-- The library's sort as it stands in this program. -/
def sortRen : Go.Shelf.Ren := ⟨fun | 5 => 188 | 8 => 211 | 7 => 210 | 19 => 230 | 20 => 231 | 10 => 221 | 11 => 222 | 12 => 223 | 13 => 224 | 14 => 225 | 15 => 226 | 16 => 227 | 17 => 228 | 18 => 229 | 30 => 244 | 31 => 245 | 32 => 246 | 33 => 247 | 34 => 248 | 35 => 249 | 40 => 251 | n => n, fun | 23 => 119 | 25 => 3 | 3 => 3 | 32 => 231 | 22 => 119 | 0 => 0 | 44 => 311 | 46 => 330 | 4 => 4 | 36 => 321 | 35 => 320 | 41 => 326 | 5 => 5 | 9 => 9 | 53 => 340 | 57 => 344 | 63 => 346 | 64 => 178 | n => n, fun | n => n⟩
theorem sortLay : Go.Proofs.SlLaysM.n5 Tryz.prog sortRen := {
  mixed := by kernel_rfl
  f5 := ⟨Tryz.f188.name, by decide, Tryz.func188.trans (congrArg some (by kernel_rfl))⟩
  f7 := ⟨Tryz.f210.name, by decide, Tryz.func210.trans (congrArg some (by kernel_rfl))⟩
  f8 := Tryz.func211.trans (congrArg some (by kernel_rfl))
  f10 := ⟨Tryz.f221.name, by decide, Tryz.func221.trans (congrArg some (by kernel_rfl))⟩
  f11 := ⟨Tryz.f222.name, by decide, Tryz.func222.trans (congrArg some (by kernel_rfl))⟩
  f12 := ⟨Tryz.f223.name, by decide, Tryz.func223.trans (congrArg some (by kernel_rfl))⟩
  f13 := ⟨Tryz.f224.name, by decide, Tryz.func224.trans (congrArg some (by kernel_rfl))⟩
  f14 := ⟨Tryz.f225.name, by decide, Tryz.func225.trans (congrArg some (by kernel_rfl))⟩
  f15 := ⟨Tryz.f226.name, by decide, Tryz.func226.trans (congrArg some (by kernel_rfl))⟩
  f16 := ⟨Tryz.f227.name, by decide, Tryz.func227.trans (congrArg some (by kernel_rfl))⟩
  f17 := ⟨Tryz.f228.name, by decide, Tryz.func228.trans (congrArg some (by kernel_rfl))⟩
  f18 := ⟨Tryz.f229.name, by decide, Tryz.func229.trans (congrArg some (by kernel_rfl))⟩
  f19 := Tryz.func230.trans (congrArg some (by kernel_rfl))
  f20 := Tryz.func231.trans (congrArg some (by kernel_rfl))
  f30 := ⟨Tryz.f244.name, by decide, Tryz.func244.trans (congrArg some (by kernel_rfl))⟩
  f31 := Tryz.func245.trans (congrArg some (by kernel_rfl))
  f32 := Tryz.func246.trans (congrArg some (by kernel_rfl))
  f33 := ⟨Tryz.f247.name, by decide, Tryz.func247.trans (congrArg some (by kernel_rfl))⟩
  f34 := ⟨Tryz.f248.name, by decide, Tryz.func248.trans (congrArg some (by kernel_rfl))⟩
  f35 := ⟨Tryz.f249.name, by decide, Tryz.func249.trans (congrArg some (by kernel_rfl))⟩
  f40 := ⟨Tryz.f251.name, by decide, Tryz.func251.trans (congrArg some (by kernel_rfl))⟩
  t0 := Tryz.underlying0
  a0 := Tryz.isAgg0
  z0 := Tryz.sizeOf0
  v0 := Tryz.zeroValue0
  t3 := Tryz.underlying3
  a3 := Tryz.isAgg3
  z3 := Tryz.sizeOf3
  v3 := Tryz.zeroValue3
  t4 := Tryz.underlying4
  a4 := Tryz.isAgg4
  z4 := Tryz.sizeOf4
  v4 := Tryz.zeroValue4
  t5 := Tryz.underlying5
  a5 := Tryz.isAgg5
  z5 := Tryz.sizeOf5
  v5 := Tryz.zeroValue5
  t9 := Tryz.underlying9
  a9 := Tryz.isAgg9
  z9 := Tryz.sizeOf9
  v9 := Tryz.zeroValue9
  t22 := Tryz.underlying119
  a22 := Tryz.isAgg119
  z22 := Tryz.sizeOf119
  v22 := Tryz.zeroValue119
  t23 := Tryz.underlying119
  a23 := Tryz.isAgg119
  z23 := Tryz.sizeOf119
  v23 := Tryz.zeroValue119
  t25 := Tryz.underlying3
  a25 := Tryz.isAgg3
  z25 := Tryz.sizeOf3
  v25 := Tryz.zeroValue3
  t32 := Tryz.underlying231
  a32 := Tryz.isAgg231
  z32 := Tryz.sizeOf231
  v32 := Tryz.zeroValue231
  t35 := Tryz.underlying320
  a35 := Tryz.isAgg320
  z35 := Tryz.sizeOf320
  v35 := Tryz.zeroValue320
  t36 := Tryz.underlying321
  a36 := Tryz.isAgg321
  z36 := Tryz.sizeOf321
  v36 := Tryz.zeroValue321
  t41 := Tryz.underlying326
  a41 := Tryz.isAgg326
  z41 := Tryz.sizeOf326
  v41 := Tryz.zeroValue326
  t44 := Tryz.underlying311
  a44 := Tryz.isAgg311
  z44 := Tryz.sizeOf311
  v44 := Tryz.zeroValue311
  t46 := Tryz.underlying330
  a46 := Tryz.isAgg330
  z46 := Tryz.sizeOf330
  v46 := Tryz.zeroValue330
  t53 := Tryz.underlying340
  a53 := Tryz.isAgg340
  z53 := Tryz.sizeOf340
  v53 := Tryz.zeroValue340
  t57 := Tryz.underlying344
  a57 := Tryz.isAgg344
  z57 := Tryz.sizeOf344
  v57 := Tryz.zeroValue344
  t63 := Tryz.underlying346
  a63 := Tryz.isAgg346
  z63 := Tryz.sizeOf346
  v63 := Tryz.zeroValue346
  t64 := Tryz.underlying178
  a64 := Tryz.isAgg178
  z64 := Tryz.sizeOf178
  v64 := Tryz.zeroValue178 }
theorem sortN_calls (B : Nat) (a : Option Addr) (c : Nat) (l : List Int) (w : World) (h : Own1 3 B w a l.length c (on l)) (hl : l.length ≤ 1048576) :
    Calls Tryz.prog 188 #[.slice a l.length c] w fun e w' => e = .returned (.tuple #[]) ∧ w.grownBy w' (Value.slice a l.length c).ownBlock ∧ Own1 3 B w' a l.length c (on (srt l)) := by
  rcases h.2 with ⟨e1, h0⟩ | ⟨g, cap, cur, e1, hB, hh, h1, h2, h3, h4⟩
  · simp only [Value.slice.injEq] at e1
    obtain ⟨rfl, _, rfl⟩ := e1
    have hl0 : l = [] := List.eq_nil_of_length_eq_zero h0
    subst hl0
    refine Calls.mono (AnyM.slices_Sort_int_none sortLay none 0 w) ?_
    rintro e w' ⟨rfl, rfl⟩
    exact ⟨rfl, ⟨rfl, rfl, rfl, Nat.le_refl _, fun _ _ _ => rfl⟩, by rw [show srt [] = [] by simp [srt]]; exact own1_nil _ _ _⟩
  · simp only [Value.slice.injEq] at e1
    obtain ⟨rfl, _, rfl⟩ := e1
    rw [Nat.mul_one] at h4
    have hz : l.length < 4611686018427387904 := Nat.lt_of_le_of_lt hl (by decide)
    refine Calls.mono (AnyM.slices_Sort_int sortLay g 0 c l w (holds_of_blockI hh h4) (Array.getElem?_eq_some_iff.1 hh).1 hz) ?_
    rintro e w' ⟨rfl, n, os, rfl⟩
    exact ⟨rfl, grownBy_sortedI _, ownsRow_sortedI (srt_len l) hB hh h1 h2 h3⟩
end Go.Proofs.YtnohmedccbogkaaGreatDoor

/- A tree in memory: its top, its nodes, its pages. -/
namespace Go.Proofs.YtnohmedccbogkaaGreatDoor
open Go.RowKit
set_option linter.unusedVariables false

theorem methPgL (b : Nat) (w : World) : (Go.method 482 299 (.pointer (some ⟨b, 0, none⟩)) "loop.example/s01906/impl.page").run Tryz.prog w = .ok (272, .pointer (some ⟨b, 0, none⟩)) w := by kernel_rfl
theorem methPgI (b : Nat) (w : World) : (Go.method 482 260 (.pointer (some ⟨b, 0, none⟩)) "loop.example/s01906/impl.page").run Tryz.prog w = .ok (272, .pointer (some ⟨b, 0, none⟩)) w := by kernel_rfl
/-- The tree's top: its only kid is the root. -/
def TopR (w : World) (gt : Nat) (o : Option Tr) (F : List Nat) : Prop := ∃ gi a c us G, F = gt :: gi :: (rb a ++ G) ∧ Blk w 267 gt [.pointer (some ⟨gi, 0, none⟩)] ∧ Blk w 265 gi [.int .i64 0, .slice a us.length c] ∧ ORow 276 2 0 w a us.length c (kdF us) ∧
  match o with
  | none => us = [] ∧ G = []
  | some T => ∃ v, us = [(strOfNums [], v)] ∧ IRep w T G [(strOfNums [], v)]
theorem TopR.keep {w w' : World} {gt : Nat} {o : Option Tr} {F : List Nat} (h : TopR w gt o F) (hk : ∀ k ∈ F, w'.heap[k]? = w.heap[k]?) : TopR w' gt o F := by
  obtain ⟨gi, a, c, us, G, rfl, h1, h2, h3, h4⟩ := h
  refine ⟨gi, a, c, us, G, rfl, (hk gt (by simp)).trans h1, (hk gi (by simp)).trans h2, orow_rb h3 (fun k hkr => hk k (by simp [hkr])), ?_⟩
  cases o with
  | none => exact h4
  | some T =>
    obtain ⟨v, e, h5⟩ := h4
    exact ⟨v, e, h5.keep (fun k hkr => hk k (by simp [hkr]))⟩
/-- The pages, the kids first. -/
def pgNo : Option Tr → List Int
  | none => []
  | some T => pgN T
def okO : Option Tr → Prop
  | none => True
  | some T => isT T = true ∧ full T true
theorem TopR.flt {w : World} {gt : Nat} {o : Option Tr} {F : List Nat} (h : TopR w gt o F) : ∀ k ∈ F, k < w.heap.size := by
  obtain ⟨gi, a, c, us, G, rfl, h1, h2, h3, h4⟩ := h
  intro k hk
  rcases List.mem_cons.1 hk with rfl | hk
  · exact h1.lt
  rcases List.mem_cons.1 hk with rfl | hk
  · exact h2.lt
  rcases List.mem_append.1 hk with hk | hk
  · exact (orow_rb_lt h3 k hk).2
  · cases o with
    | none => rw [h4.2] at hk; cases hk
    | some T =>
      obtain ⟨v, e, h5⟩ := h4
      exact h5.lt k hk
def LO : Option Tr → List (ByteArray × Tr)
  | none => []
  | some T => [(strOfNums [], T)]
theorem pgNL_LO (o : Option Tr) : pgNL (LO o) = pgNo o := by cases o <;> simp [LO, pgNL, pgNo]
theorem NsQ.trans0 {B : Nat} {w wr W2 w' : World} {a a' a2 : Option Addr} {c' c2 : Nat} {vals vals2 : List Value} {ids ids2 : List Int} (h : NsQ B w a 0 [] ids a' c' vals wr) (q : Below wr.heap.size wr W2) (h2 : NsQ B W2 a' vals.length vals ids2 a2 c2 vals2 w') : NsQ B w a 0 [] (ids ++ ids2) a2 c2 (vals ++ vals2) w' :=
  h.trans q (by rw [Nat.zero_add]; exact h2)

set_option maxHeartbeats 2000000 in
set_option maxRecDepth 100000 in
theorem trNodes_calls (gt : Nat) (o : Option Tr) (F : List Nat) (w : World) (h : TopR w gt o F) (hok : okO o) (hl : (pgNo o).length ≤ 1024) :
    Calls Tryz.prog 187 #[.pointer (some ⟨gt, 0, none⟩)] w fun e w' => ∃ a c vals, e = .returned (.slice a vals.length c) ∧ NsQ w.heap.size w none 0 [] (pgNo o) a c vals w' := by
  obtain ⟨gi, ak, ck, us, G, rfl, h1, h2, hrow, hor⟩ := h
  have hul : us.length = (LO o).length := by
    cases o with
    | none => rw [hor.1]; rfl
    | some T => obtain ⟨v, e, _⟩ := hor; rw [e]; rfl
  have hkid : ∀ i, i < us.length → ∃ Gi, IRep w ((LO o).getD i t0).2 Gi [(strOfNums [], (us.getD i k0).2)] := fun i hi => by
    cases o with
    | none => rw [hor.1] at hi; exact absurd hi (Nat.not_lt_zero _)
    | some T =>
      obtain ⟨v, e, h⟩ := hor
      subst e
      have : i = 0 := by simp at hi; exact hi
      subst this
      exact ⟨G, h⟩
  have IH : ∀ i, i < (LO o).length → NsC ((LO o).getD i t0).2 := fun i hi => by
    cases o with
    | none => exact absurd hi (Nat.not_lt_zero _)
    | some T =>
      have : i = 0 := by simp [LO] at hi; exact hi
      subst this
      exact (nodes_all T).1 hok.1 hok.2
  have hul2 : us.length ≤ 1 := by rw [hul]; cases o <;> simp [LO]
  rw [← pgNL_LO o] at hl ⊢
  generalize LO o = L at *
  have c1 : w.cell? ⟨gt, 0, none⟩ = some (.pointer (some ⟨gi, 0, none⟩)) := h1.cell 0
  have c2 : w.cell? ⟨gi, 1, none⟩ = some (.slice ak us.length ck) := h2.cell 1
  have hQ : NsQ w.heap.size w none 0 [] (pgNL (L.take 0)) none 0 [] w := ⟨own1_nil _ _ _, OnlyS.refl _ _, fun k hk _ => hk, fun _ _ => KeepT.refl _ _, rfl, fun i hi => absurd hi (Nat.not_lt_zero _)⟩
  have HQ : Hid _ := hQ
  have hone : ∀ i, i < us.length → (us.getD i k0).2.oneCell' = true := fun i hi => by
    obtain ⟨Gi, h⟩ := hkid i hi
    obtain ⟨ty, p, fn, e, _⟩ := IH i (by omega) _ Gi w 0 none 0 0 [] h (own1_nil _ _ _) (Nat.zero_le _) (by have := pgNL_take L i (by omega); have h2 := pgNL_le L (i + 1); rw [this, List.length_append] at h2; omega)
    rw [e]
    rfl
  have HK : Hid _ := And.intro hrow (And.intro hkid (And.intro IH hone))
  clear hQ h1 h2 hrow hkid IH hone hor hok
  go_enter Tryz.func187, Tryz.ntmps187
  go_wp2_with fail
  go_loopw [3, 14] (fun s1 s12 wr => ∃ (i : Nat) (a' : Option Addr) (c' : Nat) (vals : List Value), s1 = .slice a' vals.length c' ∧ s12 = .int .i64 (i : Nat) ∧ i ≤ us.length ∧ NsQ w.heap.size w none 0 [] (pgNL (L.take i)) a' c' vals wr) (fun _ s _ => us.length - (intOf s).toNat)
  case atStart => exact ⟨0, none, 0, [], rfl, rfl, Nat.zero_le _, HQ.out⟩
  case round =>
    obtain ⟨i, a', c', vals, rfl, rfl, hi, hI⟩ := hrel
    obtain ⟨wR, hwX⟩ : ∃ wX, wX = wr := ⟨_, rfl⟩
    subst hwX
    have hvl := hI.len
    have hwz := hI.fr.size
    by_cases hlt : i < us.length
    · have hlt' : (i : Int) < (us.length : Int) := by omega
      have hp1 := pgNL_take L i (by omega)
      have hp2 := pgNL_le L (i + 1)
      have hp3 := pgNL_le L i
      rw [hp1, List.length_append] at hp2
      have hrR : ORow 276 2 0 wR ak us.length ck (kdF us) := ownsRow_keepT HK.out.1 (hI.keep _ (by decide))
      obtain ⟨kb, rfl, _, hkl⟩ := orow_at hrR (by omega)
      have hcl := fun j v hv => (hrR.reads (kdF_ok us _ HK.out.2.2.2)).cells i hlt j v hv
      rw [show kdF us i = [.string (us.getD i k0).1, (us.getD i k0).2] from rfl] at hcl
      obtain ⟨Gi, hGi⟩ := HK.out.2.1 i hlt
      have IHi := HK.out.2.2.1 i (by omega)
      generalize us.getD i k0 = en at *
      obtain ⟨sg, u⟩ := en
      have q2 : Below wR.heap.size wR (wR.alloc (Obj.cells #[.string sg, u] 276)) := (Below.refl _ _).alloc (Nat.le_refl _) _
      have hown0 : Own1 273 w.heap.size wR a' vals.length c' vals := by have := hI.own; rwa [Nat.zero_add] at this
      obtain ⟨ty, p, fn, hu, hmeth, hent, hcall⟩ := IHi u Gi (wR.alloc (Obj.cells #[.string sg, u] 276)) w.heap.size a' vals.length c' vals ((hGi.keepN hI.keep).below q2) (hown0.below q2) (by have := q2.size; omega) (by rw [hvl]; omega)
      subst hu
      have cc0 : wR.cell? ⟨kb, i * 2, none⟩ = some (.string sg) := by have := hcl 0 _ rfl; simpa using this
      have cc1 : wR.cell? ⟨kb, i * 2 + 1, none⟩ = some (.iface ty (.pointer p)) := by have := hcl 1 _ rfl; simpa using this
      have kE := blk_new wR 276 #[.string sg, .iface ty (.pointer p)]
      have HI : Hid _ := And.intro hI (And.intro q2 hp1)
      clear hcl hGi IHi hrR hI q2 hp1 HK hvl hown0
      go_upto_region 5 with (first | (refine wpList_storeNew rfl 276 _ _ rfl wR #[.string (strOfNums []), .nilIface] #[.string sg, .iface ty (.pointer p)] 276 rfl rfl sizeKd rfl rfl ?_))
      change Code.wp _ _ _ _ (wR.alloc (Obj.cells #[.string sg, .iface ty (.pointer p)] 276))
      generalize wR.alloc (Obj.cells #[.string sg, .iface ty (.pointer p)] 276) = W2 at *
      generalize heb : wR.heap.size = eb at *
      have c3 : W2.cell? ⟨eb, 1, none⟩ = some (.iface ty (.pointer p)) := Blk.cell kE 1
      clear kE cc0 cc1
      go_wp2_with fail
      refine hcall.mono ?_
      rintro e w8 ⟨a8, c8, vals8, rfl, hQ8⟩
      have h8 := HI.out.1.trans0 (by rw [heb]; exact HI.out.2.1) hQ8
      rw [← HI.out.2.2] at h8
      have FIN : Hid _ := h8
      clear hcall hQ8 h8
      go_wp2_with fail
      go_roundw
      case rel => exact ⟨i + 1, a8, c8, vals ++ vals8, by rw [List.length_append], by go_num, by omega, FIN.out⟩
      case measure => simp [intOf]; omega
    · have hie : i = L.length := by omega
      have hnl : ¬ ((i : Int) < (us.length : Int)) := by omega
      have HI : Hid (NsQ w.heap.size w none 0 [] (pgNL L) a' c' vals wR) := by have := hI; rw [hie, List.take_length] at this; exact this
      clear hI HK hvl
      go_wp2_with fail
      go_ret
      exact ⟨_, _, vals, rfl, HI.out⟩
end Go.Proofs.YtnohmedccbogkaaGreatDoor

