import Derived.Test.YtnohmedccbogkaaGreatDoorDi2
import Derived.Test.YtnohmedccbogkaaGreatDoorDi4
namespace Go.Proofs.YtnohmedccbogkaaGreatDoor
open Go.RowKit
set_option linter.unusedVariables false
def orE : List (ByteArray × ByteArray) → ByteArray × ByteArray → Option (ByteArray × ByteArray)
  | [], x => some x
  | e :: es, x => if sl x.1 e.1 = true ∧ sle x.2 e.1 = true then orE es (e.1, x.2) else none
def orT : Tr → Bool → ByteArray × ByteArray → Option (ByteArray × ByteArray)
  | .leaf _ es, _, x => orE es x
  | .node _ ks, _, x => orT ks true x
  | .nil, _, x => some x
  | .cons s t ks, b, x => if b = true ∨ sl x.1 s = true then (orT t true (x.1, if b = true then x.2 else s)).bind (orT ks false) else none
def inB (low high k : ByteArray) : Bool := sle low k && (high.size == 0 || sl k high)
def ascE : List (ByteArray × ByteArray) → Bool
  | [] => true
  | [_] => true
  | a :: b :: es => sl a.1 b.1 && ascE (b :: es)
def maxB (low s : ByteArray) : ByteArray := if sl s low then low else s
def minB (high s : ByteArray) : ByteArray := if high.size == 0 || sl s high then s else high
def hdS : Tr → Option ByteArray
  | .cons s _ _ => some s
  | _ => none
def minO (high : ByteArray) : Option ByteArray → ByteArray
  | some s => minB high s
  | none => high
def okT : Tr → Bool → ByteArray → ByteArray → Bool
  | .leaf _ es, _, low, high => es.all (fun e => inB low high e.1) && ascE es
  | .node _ ks, _, low, high => okT ks true low high
  | .nil, _, _, _ => true
  | .cons s t ks, b, low, high => okT t true (if b = true then low else maxB low s) (minO high (hdS ks)) && okT ks false low high
def keysT : Tr → List ByteArray
  | .leaf _ es => es.map (·.1)
  | .node _ ks => keysT ks
  | .nil => []
  | .cons _ t ks => keysT t ++ keysT ks
def hdOk (l : ByteArray) (ks : Tr) : Prop := ∀ s, hdS ks = some s → sl l s = true
def inn : Tr → Bool → Prop
  | .leaf _ es, _ => (es.map (·.1)).Pairwise (fun a b => sl a b = true)
  | .node _ ks, _ => inn ks true
  | .nil, _ => True
  | .cons s t ks, b => inn t true ∧ (b = false → ∀ k ∈ keysT t, sle s k = true) ∧ (∀ k ∈ keysT t, hdOk k ks) ∧ inn ks false
def isT : Tr → Bool
  | .leaf _ _ => true
  | .node _ _ => true
  | _ => false
def full : Tr → Bool → Prop
  | .leaf _ es, _ => es ≠ []
  | .node _ ks, _ => (∃ s t r, ks = .cons s t r) ∧ full ks true
  | .nil, _ => True
  | .cons s t ks, b => (b = false → 1 ≤ s.size) ∧ isT t = true ∧ isT ks = false ∧ full t true ∧ full ks false
theorem pw_cons2 {es : List (ByteArray × ByteArray)} {a b : ByteArray × ByteArray} (h : ((a :: b :: es).map (·.1)).Pairwise (fun x y => sl x y = true)) : sl a.1 b.1 = true := by
  simp only [List.map_cons, List.pairwise_cons] at h
  exact h.1 b.1 (by simp)
theorem ascE_iff : ∀ es : List (ByteArray × ByteArray), ascE es = true ↔ (es.map (·.1)).Pairwise (fun a b => sl a b = true)
  | [] => by simp [ascE]
  | [a] => by simp [ascE]
  | a :: b :: es => by
    have ih := ascE_iff (b :: es)
    constructor
    · intro h
      simp only [ascE, Bool.and_eq_true] at h
      have h2 := ih.1 h.2
      rw [List.map_cons, List.pairwise_cons]
      refine ⟨fun k hk => ?_, h2⟩
      rw [List.map_cons] at hk h2
      rcases List.mem_cons.1 hk with rfl | hk
      · exact h.1
      · exact sl_trans h.1 (List.rel_of_pairwise_cons h2 hk)
    · intro h
      simp only [ascE, Bool.and_eq_true]
      exact ⟨pw_cons2 h, ih.2 (by rw [List.map_cons, List.pairwise_cons] at h; exact h.2)⟩
theorem inB_iff {low high k : ByteArray} : inB low high k = true ↔ sle low k = true ∧ (high.size = 0 ∨ sl k high = true) := by
  simp [inB]
theorem inB_max {low s high k : ByteArray} : inB (maxB low s) high k = true ↔ inB low high k = true ∧ sle s k = true := by
  rw [inB_iff, inB_iff]
  unfold maxB
  split
  · rename_i h
    exact ⟨fun x => ⟨x, sle_trans (sl_sle h) x.1⟩, fun x => x.1⟩
  · rename_i h
    have hl : sle low s = true := by unfold sle; simpa using h
    exact ⟨fun x => ⟨⟨sle_trans hl x.1, x.2⟩, x.1⟩, fun x => ⟨x.2, x.1.2⟩⟩
theorem inB_min {low s high k : ByteArray} (hs : 1 ≤ s.size) : inB low (minB high s) k = true ↔ inB low high k = true ∧ sl k s = true := by
  rw [inB_iff, inB_iff]
  unfold minB
  split
  · rename_i h
    simp only [Bool.or_eq_true, beq_iff_eq] at h
    constructor
    · rintro ⟨h1, h2⟩
      rcases h2 with h2 | h2
      · omega
      · exact ⟨⟨h1, by rcases h with h | h; exact Or.inl h; exact Or.inr (sl_trans h2 h)⟩, h2⟩
    · rintro ⟨⟨h1, _⟩, h2⟩
      exact ⟨h1, Or.inr h2⟩
  · rename_i h
    simp only [Bool.or_eq_true, beq_iff_eq, not_or] at h
    have hl : sle high s = true := by unfold sle; simpa using h.2
    constructor
    · rintro ⟨h1, h2⟩
      rcases h2 with h2 | h2
      · exact absurd h2 h.1
      · exact ⟨⟨h1, Or.inr h2⟩, sl_sle_trans h2 hl⟩
    · rintro ⟨⟨h1, h2⟩, _⟩
      exact ⟨h1, h2⟩
theorem inB_minO {low high k : ByteArray} {ks : Tr} (hs : ∀ s, hdS ks = some s → 1 ≤ s.size) : inB low (minO high (hdS ks)) k = true ↔ inB low high k = true ∧ hdOk k ks := by
  unfold hdOk
  cases h : hdS ks with
  | none => simp [minO]
  | some s => simp only [minO, inB_min (hs s h), Option.some.injEq]; exact ⟨fun x => ⟨x.1, fun _ e => e ▸ x.2⟩, fun x => ⟨x.1, x.2 s rfl⟩⟩
theorem full_hd {ks : Tr} (h : full ks false) : ∀ s, hdS ks = some s → 1 ≤ s.size := fun s e => by
  cases ks with
  | cons s0 t r => rw [hdS] at e; cases e; rw [full] at h; exact h.1 rfl
  | _ => simp [hdS] at e
theorem okT_iff : ∀ (t : Tr) (b : Bool) (low high : ByteArray), full t b → (okT t b low high = true ↔ inn t b ∧ ∀ k ∈ keysT t, inB low high k = true)
  | .leaf id es, _, low, high, _ => by
    simp only [okT, Bool.and_eq_true, inn, keysT, ascE_iff, List.all_eq_true, List.mem_map]
    constructor
    · rintro ⟨h1, h2⟩
      exact ⟨h2, by rintro k ⟨e, he, rfl⟩; exact h1 e he⟩
    · rintro ⟨h1, h2⟩
      exact ⟨fun e he => h2 _ ⟨e, he, rfl⟩, h1⟩
  | .node id ks, _, low, high, h => by
    rw [full] at h
    rw [okT, inn, keysT]
    exact okT_iff ks true low high h.2
  | .nil, _, _, _, _ => by simp [okT, inn, keysT]
  | .cons s t ks, b, low, high, h => by
    rw [full] at h
    rw [okT, inn, keysT, Bool.and_eq_true, okT_iff t true _ _ h.2.2.2.1, okT_iff ks false low high h.2.2.2.2]
    simp only [inB_minO (full_hd h.2.2.2.2), List.mem_append]
    cases b with
    | true =>
      simp only [if_true]
      constructor
      · rintro ⟨⟨a1, a2⟩, a3, a4⟩
        exact ⟨⟨a1, fun x => absurd x (by decide), fun k hk => (a2 k hk).2, a3⟩, fun k hk => by rcases hk with hk | hk; exact (a2 k hk).1; exact a4 k hk⟩
      · rintro ⟨⟨a1, _, a3, a4⟩, a5⟩
        exact ⟨⟨a1, fun k hk => ⟨a5 k (Or.inl hk), a3 k hk⟩⟩, a4, fun k hk => a5 k (Or.inr hk)⟩
    | false =>
      simp only [Bool.false_eq_true, if_false, inB_max, true_implies]
      constructor
      · rintro ⟨⟨a1, a2⟩, a3, a4⟩
        exact ⟨⟨a1, fun k hk => (a2 k hk).1.2, fun k hk => (a2 k hk).2, a3⟩, fun k hk => by rcases hk with hk | hk; exact (a2 k hk).1.1; exact a4 k hk⟩
      · rintro ⟨⟨a1, a2, a3, a4⟩, a5⟩
        exact ⟨⟨a1, fun k hk => ⟨⟨a5 k (Or.inl hk), a2 k hk⟩, a3 k hk⟩⟩, a4, fun k hk => a5 k (Or.inr hk)⟩
theorem keysT_ne : ∀ (t : Tr) (b : Bool), full t b → isT t = true → keysT t ≠ []
  | .leaf id es, _, h, _ => by simpa [keysT, full] using h
  | .node id (.cons s t r), _, h, _ => by
    rw [full] at h
    have h2 := h.2
    rw [full] at h2
    simp only [keysT]
    intro e
    exact keysT_ne t true h2.2.2.2.1 h2.2.1 (List.append_eq_nil_iff.1 e).1
  | .node id (.leaf _ _), _, h, _ => by rw [full] at h; obtain ⟨⟨_, _, _, e⟩, _⟩ := h; cases e
  | .node id (.node _ _), _, h, _ => by rw [full] at h; obtain ⟨⟨_, _, _, e⟩, _⟩ := h; cases e
  | .node id .nil, _, h, _ => by rw [full] at h; obtain ⟨⟨_, _, _, e⟩, _⟩ := h; cases e
  | .nil, _, _, h => by simp [isT] at h
  | .cons _ _ _, _, _, h => by simp [isT] at h
def lastK (l : ByteArray) : List ByteArray → ByteArray
  | [] => l
  | k :: ks => lastK k ks
theorem lastK_mem {l : ByteArray} : ∀ {ks : List ByteArray}, ks ≠ [] → lastK l ks ∈ ks
  | [], h => absurd rfl h
  | [k], _ => by simp [lastK]
  | k :: k2 :: ks, _ => by
    have := lastK_mem (l := k) (ks := k2 :: ks) (by simp)
    rw [lastK]
    exact List.mem_cons_of_mem _ this
theorem lastK_app (l : ByteArray) : ∀ (a b : List ByteArray), lastK l (a ++ b) = lastK (lastK l a) b
  | [], b => rfl
  | k :: a, b => by simp only [List.cons_append, lastK]; exact lastK_app k a b
theorem sle_refl (a : ByteArray) : sle a a = true := by unfold sle; rw [sl_irr]; rfl
theorem lastK_max {l : ByteArray} : ∀ {ks : List ByteArray}, ks.Pairwise (fun a b => sl a b = true) → ∀ k ∈ ks, sle k (lastK l ks) = true
  | [], _, k, hk => by simp at hk
  | [a], _, k, hk => by simp at hk; subst hk; exact sle_refl _
  | a :: b :: ks, h, k, hk => by
    rw [List.pairwise_cons] at h
    rw [lastK]
    rcases List.mem_cons.1 hk with rfl | hk
    · exact sl_sle (h.1 _ (lastK_mem (by simp)))
    · exact lastK_max (l := a) h.2 k hk
theorem orE_iff : ∀ (es : List (ByteArray × ByteArray)) (l s : ByteArray) (x : ByteArray × ByteArray), orE es (l, s) = some x ↔ ((es.map (·.1)).Pairwise (fun a b => sl a b = true) ∧ ∀ k ∈ es.map (·.1), sl l k = true ∧ sle s k = true) ∧ x = (lastK l (es.map (·.1)), s)
  | [], l, s, x => by
    rw [orE]
    constructor
    · intro h
      cases h
      exact ⟨⟨by simp, by simp⟩, rfl⟩
    · rintro ⟨_, rfl⟩
      rfl
  | e :: es, l, s, x => by
    rw [orE]
    simp only [List.map_cons, lastK]
    by_cases h : sl l e.1 = true ∧ sle s e.1 = true
    · rw [if_pos h, orE_iff es e.1 s x, List.pairwise_cons]
      constructor
      · rintro ⟨⟨h1, h2⟩, h3⟩
        refine ⟨⟨⟨fun k hk => (h2 k hk).1, h1⟩, fun k hk => ?_⟩, h3⟩
        rcases List.mem_cons.1 hk with rfl | hk
        · exact h
        · exact ⟨sl_trans h.1 (h2 k hk).1, (h2 k hk).2⟩
      · rintro ⟨⟨⟨h1, h2⟩, h3⟩, h4⟩
        exact ⟨⟨h2, fun k hk => ⟨h1 k hk, (h3 k (List.mem_cons_of_mem _ hk)).2⟩⟩, h4⟩
    · rw [if_neg h]
      constructor
      · intro x; cases x
      · rintro ⟨⟨_, h3⟩, _⟩
        exact absurd (h3 e.1 (by simp)) h
theorem inn_head : ∀ (ks : Tr) (s0 : ByteArray), full ks false → inn ks false → hdS ks = some s0 → ∀ k ∈ keysT ks, sle s0 k = true
  | .cons s t ks, s0, hf, h, e, k, hk => by
    rw [hdS] at e
    cases e
    rw [inn] at h
    rw [full] at hf
    rw [keysT, List.mem_append] at hk
    rcases hk with hk | hk
    · exact h.2.1 rfl k hk
    · obtain ⟨k0, hk0⟩ := List.exists_mem_of_ne_nil _ (keysT_ne t true hf.2.2.2.1 hf.2.1)
      cases ks with
      | nil => simp [keysT] at hk
      | leaf _ _ => have := hf.2.2.1; simp [isT] at this
      | node _ _ => have := hf.2.2.1; simp [isT] at this
      | cons s2 t2 r =>
        have h2 := inn_head (.cons s2 t2 r) s2 hf.2.2.2.2 h.2.2.2 rfl k hk
        exact sle_trans (h.2.1 rfl k0 hk0) (sle_trans (sl_sle (h.2.2.1 k0 hk0 s2 rfl)) h2)
  | .nil, _, _, _, e, _, _ => by simp [hdS] at e
  | .leaf _ _, _, _, _, e, _, _ => by simp [hdS] at e
  | .node _ _, _, _, _, e, _, _ => by simp [hdS] at e
theorem srtT : ∀ (t : Tr) (b : Bool), full t b → inn t b → (keysT t).Pairwise (fun a b => sl a b = true)
  | .leaf id es, _, _, h => by simpa [inn, keysT] using h
  | .node id ks, _, hf, h => by
    rw [full] at hf
    rw [inn] at h
    rw [keysT]
    exact srtT ks true hf.2 h
  | .nil, _, _, _ => by simp [keysT]
  | .cons s t ks, b, hf, h => by
    rw [inn] at h
    rw [full] at hf
    rw [keysT, List.pairwise_append]
    refine ⟨srtT t true hf.2.2.2.1 h.1, srtT ks false hf.2.2.2.2 h.2.2.2, fun a ha c hc => ?_⟩
    cases ks with
    | nil => simp [keysT] at hc
    | leaf _ _ => have := hf.2.2.1; simp [isT] at this
    | node _ _ => have := hf.2.2.1; simp [isT] at this
    | cons s2 t2 r => exact sl_sle_trans (h.2.2.1 a ha s2 rfl) (inn_head (.cons s2 t2 r) s2 hf.2.2.2.2 h.2.2.2 rfl c hc)
theorem orT_fwd : ∀ (t : Tr) (b : Bool) (l s : ByteArray) (x : ByteArray × ByteArray), full t b → orT t b (l, s) = some x →
    inn t b ∧ (∀ k ∈ keysT t, sl l k = true) ∧ ((isT t = true ∨ b = true) → ∀ k ∈ keysT t, sle s k = true) ∧ (b = false → hdOk l t) ∧ x.1 = lastK l (keysT t) ∧ ((isT t = true ∨ sle s l = true) → sle x.2 x.1 = true)
  | .leaf id es, b, l, s, x, hf, h => by
    rw [orT, orE_iff] at h
    obtain ⟨⟨h1, h2⟩, rfl⟩ := h
    refine ⟨by simpa [inn] using h1, fun k hk => (h2 k (by simpa [keysT] using hk)).1, fun _ k hk => (h2 k (by simpa [keysT] using hk)).2, fun _ s e => by simp [hdS] at e, by simp [keysT], fun _ => ?_⟩
    have hm := lastK_mem (l := l) (ks := es.map (·.1)) (by simpa [full] using hf)
    exact (h2 _ hm).2
  | .node id (.cons s0 t ks), b, l, s, x, hf, h => by
    rw [full] at hf
    rw [orT] at h
    have ih := orT_fwd (.cons s0 t ks) true l s x hf.2 h
    have hne : keysT (.cons s0 t ks) ≠ [] := keysT_ne (.node id (.cons s0 t ks)) b (by rw [full]; exact hf) rfl
    have hm := lastK_mem (l := l) hne
    rw [inn, keysT]
    refine ⟨ih.1, ih.2.1, fun _ => ih.2.2.1 (Or.inr rfl), fun _ s e => by simp [hdS] at e, ih.2.2.2.2.1, fun _ => ?_⟩
    have hf2 := hf.2
    rw [full] at hf2
    rw [orT, if_pos (Or.inl rfl)] at h
    obtain ⟨x1, h1, h2⟩ := Option.bind_eq_some_iff.1 h
    have i1 := orT_fwd t true l _ x1 hf2.2.2.2.1 h1
    have i2 := orT_fwd ks false x1.1 x1.2 x hf2.2.2.2.2 h2
    exact i2.2.2.2.2.2 (Or.inr (i1.2.2.2.2.2 (Or.inl hf2.2.1)))
  | .node id (.leaf _ _), _, _, _, _, h, _ => by rw [full] at h; obtain ⟨⟨_, _, _, e⟩, _⟩ := h; cases e
  | .node id (.node _ _), _, _, _, _, h, _ => by rw [full] at h; obtain ⟨⟨_, _, _, e⟩, _⟩ := h; cases e
  | .node id .nil, _, _, _, _, h, _ => by rw [full] at h; obtain ⟨⟨_, _, _, e⟩, _⟩ := h; cases e
  | .nil, b, l, s, x, _, h => by
    rw [orT] at h
    cases h
    exact ⟨by simp [inn], by simp [keysT], by simp [keysT], fun _ s e => by simp [hdS] at e, by simp [keysT, lastK], fun h => by rcases h with h | h; simp [isT] at h; exact h⟩
  | .cons s0 t ks, b, l, s, x, hf, h => by
    rw [orT] at h
    rw [full] at hf
    by_cases hl : b = true ∨ sl l s0 = true
    · rw [if_pos hl] at h
      obtain ⟨x1, h1, h2⟩ := Option.bind_eq_some_iff.1 h
      obtain ⟨a1, a2, a3, _, a4, a5⟩ := orT_fwd t true l _ x1 hf.2.2.2.1 h1
      obtain ⟨b1, b2, _, b3, b4, b5⟩ := orT_fwd ks false x1.1 x1.2 x hf.2.2.2.2 h2
      have hne := keysT_ne t true hf.2.2.2.1 hf.2.1
      have hm : x1.1 ∈ keysT t := by rw [a4]; exact lastK_mem hne
      have hmax : ∀ k ∈ keysT t, sle k x1.1 = true := by rw [a4]; exact lastK_max (srtT t true hf.2.2.2.1 a1)
      have a3' := a3 (Or.inl hf.2.1)
      rw [inn, keysT]
      refine ⟨⟨a1, fun hb k hk => ?_, fun k hk s2 e => sle_sl_trans (hmax k hk) (b3 rfl s2 e), b1⟩, fun k hk => ?_, fun hb k hk => ?_, fun hb s2 e => ?_, by rw [lastK_app, ← a4]; exact b4, fun _ => b5 (Or.inr (a5 (Or.inl hf.2.1)))⟩
      · have := a3' k hk
        rw [if_neg (by rw [hb]; decide)] at this
        exact this
      · rw [List.mem_append] at hk
        rcases hk with hk | hk
        · exact a2 k hk
        · exact sl_trans (a2 _ hm) (b2 k hk)
      · have hbt : b = true := by rcases hb with hb | hb; simp [isT] at hb; exact hb
        rw [if_pos hbt] at a3'
        rw [List.mem_append] at hk
        rcases hk with hk | hk
        · exact a3' k hk
        · exact sle_trans (a3' _ hm) (sl_sle (b2 k hk))
      · rw [hdS] at e
        cases e
        rcases hl with hl | hl
        · rw [hb] at hl; exact absurd hl (by decide)
        · exact hl
    · rw [if_neg hl] at h
      cases h
theorem orT_bwd : ∀ (t : Tr) (b : Bool) (l s : ByteArray), full t b → inn t b → (∀ k ∈ keysT t, sl l k = true) → ((isT t = true ∨ b = true) → ∀ k ∈ keysT t, sle s k = true) → (b = false → hdOk l t) → ∃ x, orT t b (l, s) = some x
  | .leaf id es, b, l, s, hf, h1, h2, h3, _ => ⟨_, by rw [orT, orE_iff]; exact ⟨⟨by simpa [inn] using h1, fun k hk => ⟨h2 k (by simpa [keysT] using hk), h3 (Or.inl rfl) k (by simpa [keysT] using hk)⟩⟩, rfl⟩⟩
  | .node id ks, b, l, s, hf, h1, h2, h3, _ => by
    rw [full] at hf
    rw [inn] at h1
    rw [keysT] at h2 h3
    rw [orT]
    exact orT_bwd ks true l s hf.2 h1 h2 (fun _ => h3 (Or.inl rfl)) (fun h => absurd h (by decide))
  | .nil, b, l, s, _, _, _, _, _ => ⟨_, by rw [orT]⟩
  | .cons s0 t ks, b, l, s, hf, h1, h2, h3, h4 => by
    have hsrt := srtT _ b hf h1
    rw [full] at hf
    rw [inn] at h1
    rw [keysT] at h2 h3
    rw [keysT, List.pairwise_append] at hsrt
    obtain ⟨x1, e1⟩ := orT_bwd t true l (if b = true then s else s0) hf.2.2.2.1 h1.1 (fun k hk => h2 k (List.mem_append_left _ hk)) (fun _ k hk => by
      by_cases hb : b = true
      · rw [if_pos hb]; exact h3 (Or.inr hb) k (List.mem_append_left _ hk)
      · rw [if_neg hb]; exact h1.2.1 (by simpa using hb) k hk) (fun h => absurd h (by decide))
    have a4 := (orT_fwd t true l _ x1 hf.2.2.2.1 e1).2.2.2.2.1
    have hm : x1.1 ∈ keysT t := by rw [a4]; exact lastK_mem (keysT_ne t true hf.2.2.2.1 hf.2.1)
    obtain ⟨x, e2⟩ := orT_bwd ks false x1.1 x1.2 hf.2.2.2.2 h1.2.2.2 (fun k hk => hsrt.2.2 _ hm k hk) (fun h => by
      rcases h with h | h
      · rw [hf.2.2.1] at h; exact absurd h (by decide)
      · exact absurd h (by decide)) (fun _ => h1.2.2.1 _ hm)
    refine ⟨x, ?_⟩
    rw [orT, if_pos, e1]
    · exact e2
    · by_cases hb : b = true
      · exact Or.inl hb
      · exact Or.inr (h4 (by simpa using hb) s0 rfl)
theorem sl_nil {k : ByteArray} (h : 1 ≤ k.size) : sl (strOfNums []) k = true := by
  have e : (strOfNums []).toList = [] := by rw [ByteArray.toList_eq]; rfl
  have hk : k.toList.length = k.size := by rw [ByteArray.toList_eq]; rfl
  unfold sl
  rw [e]
  cases hx : k.toList with
  | nil => rw [hx] at hk; simp at hk; omega
  | cons a x => rfl
theorem sle_nil (k : ByteArray) : sle (strOfNums []) k = true := by
  have e : (strOfNums []).toList = [] := by rw [ByteArray.toList_eq]; rfl
  unfold sle sl
  rw [e]
  cases k.toList <;> rfl
theorem order_iff {t : Tr} (hf : full t true) (hk : ∀ k ∈ keysT t, 1 ≤ k.size) : okT t true (strOfNums []) (strOfNums []) = (orT t true (strOfNums [], strOfNums [])).isSome := by
  rw [Bool.eq_iff_iff, okT_iff t _ _ _ hf, Option.isSome_iff_exists]
  constructor
  · rintro ⟨h1, _⟩
    exact orT_bwd t true _ _ hf h1 (fun k hx => sl_nil (hk k hx)) (fun _ k _ => sle_nil k) (fun h => absurd h (by decide))
  · rintro ⟨x, hx⟩
    obtain ⟨h1, h2, h3, _⟩ := orT_fwd t true _ _ x hf hx
    exact ⟨h1, fun k hx => inB_iff.2 ⟨h3 (Or.inr rfl) k hx, Or.inl rfl⟩⟩
end Go.Proofs.YtnohmedccbogkaaGreatDoor

namespace Go.Proofs.YtnohmedccbogkaaGreatDoor
open Go.RowKit
set_option linter.unusedVariables false
def nd0 : NdK := ⟨0, false, [], [], [], []⟩
def Rep (ns : List NdK) : Tr → Bool → List Int → List ByteArray → Prop
  | .leaf id es, _, ds, _ => ∃ p : Nat, ds = [(p : Int)] ∧ ns[p]? = some ⟨id, true, es.map (·.1), es.map (·.2), [], []⟩
  | .node id ks, _, ds, _ => ∃ (p : Nat) (kd : List Int) (sg : List ByteArray), ds = [(p : Int)] ∧ ns[p]? = some ⟨id, false, [], [], kd, sg⟩ ∧ Rep ns ks true kd sg
  | .nil, _, ds, ss => ds = [] ∧ ss = []
  | .cons s t ks, b, ds, ss => ∃ (d : Int) (ds' : List Int) (ss' : List ByteArray), ds = d :: ds' ∧ ss = (if b = true then ss' else s :: ss') ∧ Rep ns t true [d] [] ∧ Rep ns ks false ds' ss'
theorem Rep.app {ns : List NdK} (ms : List NdK) : ∀ {t : Tr} {b : Bool} {ds : List Int} {ss : List ByteArray}, Rep ns t b ds ss → Rep (ns ++ ms) t b ds ss
  | .leaf id es, b, ds, ss, h => by
    rw [Rep] at h ⊢
    obtain ⟨p, h1, h2⟩ := h
    exact ⟨p, h1, by rw [List.getElem?_append_left (List.getElem?_eq_some_iff.1 h2).1]; exact h2⟩
  | .node id ks, b, ds, ss, h => by
    rw [Rep] at h ⊢
    obtain ⟨p, kd, sg, h1, h2, h3⟩ := h
    exact ⟨p, kd, sg, h1, by rw [List.getElem?_append_left (List.getElem?_eq_some_iff.1 h2).1]; exact h2, h3.app ms⟩
  | .nil, b, ds, ss, h => by rw [Rep] at h ⊢; exact h
  | .cons s t ks, b, ds, ss, h => by
    rw [Rep] at h ⊢
    obtain ⟨d, ds', ss', h1, h2, h3, h4⟩ := h
    exact ⟨d, ds', ss', h1, h2, h3.app ms, h4.app ms⟩
def preK : List (ByteArray × Tr) → Tr → Tr
  | [], k => k
  | (s, t) :: r, k => .cons s t (preK r k)
theorem preK_app (a b : List (ByteArray × Tr)) (k : Tr) : preK (a ++ b) k = preK a (preK b k) := by
  induction a with
  | nil => rfl
  | cons x r ih => cases x; simp [preK, ih]
theorem rep_pre {ns : List NdK} : ∀ (ts : List (ByteArray × Tr)) (b : Bool) (ds : List Int), ds.length = ts.length → (∀ i, i < ts.length → Rep ns (ts.getD i (strOfNums [], .nil)).2 true [ds.getD i 0] []) →
    Rep ns (preK ts .nil) b ds (if b = true then ts.tail.map (·.1) else ts.map (·.1))
  | [], b, ds, hl, _ => by
    have : ds = [] := List.eq_nil_of_length_eq_zero hl
    subst this
    cases b <;> simp [preK, Rep]
  | (s, t) :: r, b, [], hl, _ => by simp at hl
  | (s, t) :: r, b, d :: ds, hl, h => by
    rw [preK, Rep]
    refine ⟨d, ds, r.map (·.1), rfl, ?_, ?_, ?_⟩
    · cases b <;> simp
    · have := h 0 (by simp)
      simpa using this
    · have := rep_pre (ns := ns) r false ds (by simpa using hl) (fun i hi => by
        have := h (i + 1) (by simp; omega)
        simpa using this)
      simpa using this
def mkB (seen : List Int) (N : Nat) : List Value := (List.range N).map fun (i : Nat) => .bool (seen.contains (i : Int))
theorem mkB_len (seen : List Int) (N : Nat) : (mkB seen N).length = N := by simp [mkB]
theorem mkB_get (seen : List Int) (N i : Nat) (h : i < N) : (mkB seen N).getD i undef = .bool (seen.contains (i : Int)) := by simp [mkB, List.getD, h]
theorem mkB_set (seen : List Int) (N i : Nat) (h : i < N) : (mkB seen N).set i (.bool true) = mkB ((i : Int) :: seen) N := by
  apply List.ext_getElem?
  intro j
  rw [List.getElem?_set]
  by_cases e : i = j
  · subst e
    rw [if_pos rfl, mkB_len, if_pos h]
    simp [mkB, h]
  · rw [if_neg e]
    by_cases hj : j < N
    · simp [mkB, hj]
      intro hh
      exact absurd (by omega) e
    · simp [mkB, hj]
theorem nodup_le : ∀ (l m : List Nat), l.Nodup → (∀ x ∈ l, x ∈ m) → l.length ≤ m.length
  | [], m, _, _ => Nat.zero_le _
  | x :: l, m, h, hs => by
    rw [List.nodup_cons] at h
    have hx := hs x (by simp)
    have := nodup_le l (m.erase x) h.2 (fun y hy => (List.mem_erase_of_ne (fun e => by subst e; exact h.1 hy)).2 (hs y (by simp [hy])))
    rw [List.length_erase_of_mem hx] at this
    have : 0 < m.length := List.length_pos_of_mem hx
    simp
    omega
structure SeenOk (seen : List Int) (N : Nat) : Prop where
  nodup : seen.Nodup
  lt : ∀ x ∈ seen, 0 ≤ x ∧ x < (N : Int)
theorem SeenOk.le {seen : List Int} {N : Nat} (h : SeenOk seen N) : seen.length ≤ N := by
  have h1 : (seen.map Int.toNat).Nodup := by
    rw [List.Nodup, List.pairwise_map]
    refine List.Pairwise.imp_of_mem ?_ h.nodup
    intro a b ha hb hne he
    have := h.lt a ha
    have := h.lt b hb
    omega
  have h2 : ∀ x ∈ seen.map Int.toNat, x ∈ List.range N := by
    intro x hx
    obtain ⟨y, hy, rfl⟩ := List.mem_map.1 hx
    have := h.lt y hy
    rw [List.mem_range]
    omega
  have := nodup_le _ _ h1 h2
  simpa using this
theorem SeenOk.cons {seen : List Int} {N : Nat} (h : SeenOk seen N) {x : Int} (h0 : 0 ≤ x) (h1 : x < (N : Int)) (h2 : x ∉ seen) : SeenOk (x :: seen) N :=
  ⟨List.nodup_cons.2 ⟨h2, h.nodup⟩, fun y hy => by rcases List.mem_cons.1 hy with rfl | hy; exact ⟨h0, h1⟩; exact h.lt y hy⟩
def ndsF (nv : Nat → NdV) (ns : List NdK) : Nat → List Value := fun i => ndc (nv i) (ns.getD i nd0)
def trc (na : Option Addr) (n nc : Nat) (rt : Int) (sb N : Nat) (tall : Int) (bad : Bool) : List Value := [.slice na n nc, .int .i64 rt, .slice (some ⟨sb, 0, none⟩) N N, .int .i64 tall, .bool bad]
structure TSt (B0 g sb N : Nat) (rt : Int) (w : World) (ns : List NdK) (nv : Nat → NdV) (na : Option Addr) (nc : Nat) (seen : List Int) (tall : Int) (bad : Bool) : Prop where
  blk : Blk w 207 g (trc na ns.length nc rt sb N tall bad)
  mks : Own1 4 B0 w (some ⟨sb, 0, none⟩) N N (mkB seen N)
  nodes : ORow 257 6 B0 w na ns.length nc (ndsF nv ns)
  each : ∀ i, i < ns.length → ONd 0 w (nv i) (ns.getD i nd0)
  gB : B0 ≤ w.heap.size
  ok : SeenOk seen N
theorem Own1.blk {e B : Nat} {w : World} {g n c : Nat} {xs : List Value} (h : Own1 e B w (some ⟨g, 0, none⟩) n c xs) : B ≤ g ∧ ∃ cur, w.heap[g]? = some (.cells cur e (0, 0)) := by
  rcases h.2 with ⟨e1, _⟩ | ⟨g', cap, cur, e1, hB, hh, _⟩
  · cases e1
  · cases e1; exact ⟨hB, cur, hh⟩
theorem ORow.blk {e s B : Nat} {w : World} {g n c : Nat} {f : Nat → List Value} (h : ORow e s B w (some ⟨g, 0, none⟩) n c f) : B ≤ g ∧ ∃ cur, w.heap[g]? = some (.cells cur e (0, 0)) := by
  rcases h.2 with ⟨e1, _⟩ | ⟨g', cap, cur, e1, hB, hh, _⟩
  · cases e1
  · cases e1; exact ⟨hB, cur, hh⟩
theorem ORow.keep {e s B : Nat} {w w' : World} {a : Option Addr} {n c : Nat} {f : Nat → List Value} (h : ORow e s B w a n c f) (hk : ∀ g, a = some ⟨g, 0, none⟩ → w'.heap[g]? = w.heap[g]?) : ORow e s B w' a n c f := by
  refine ⟨h.1, ?_⟩
  rcases h.2 with h2 | ⟨k, cap, cur, hv, hg, hh, r⟩
  · exact Or.inl h2
  · refine Or.inr ⟨k, cap, cur, hv, hg, ?_, r⟩
    cases hv
    rw [hk k rfl]; exact hh
structure Fr3 (g sb : Nat) (na : Option Addr) (w w' : World) : Prop where
  os : w'.os = w.os
  tape : w'.tape = w.tape
  output : w'.output = w.output
  size : w.heap.size ≤ w'.heap.size
  block : ∀ k, k < w.heap.size → k ≠ g → k ≠ sb → na ≠ some ⟨k, 0, none⟩ → w'.heap[k]? = w.heap[k]?
theorem Fr3.ofBelow {g sb : Nat} {na : Option Addr} {w w' : World} (h : Below w.heap.size w w') : Fr3 g sb na w w' := ⟨h.os, h.tape, h.output, h.size, fun k hk _ _ _ => h.block k hk⟩
theorem Fr3.trans {g sb : Nat} {na na1 : Option Addr} {w w1 w2 : World} (h : Fr3 g sb na w w1) (h2 : Fr3 g sb na1 w1 w2) (hn : na1 = na ∨ ∃ k, na1 = some ⟨k, 0, none⟩ ∧ w.heap.size ≤ k) : Fr3 g sb na w w2 :=
  ⟨h2.os.trans h.os, h2.tape.trans h.tape, h2.output.trans h.output, Nat.le_trans h.size h2.size, fun k hk h3 h4 h5 => by
    rw [h2.block k (Nat.lt_of_lt_of_le hk h.size) h3 h4 (by
      rcases hn with rfl | ⟨k1, rfl, hk1⟩
      · exact h5
      · intro e; cases e; omega)]
    exact h.block k hk h3 h4 h5⟩
theorem Fr3.only {g sb b : Nat} {na : Option Addr} {w w' : World} (h : OnlyB b w w') (hb : b = g ∨ b = sb ∨ na = some ⟨b, 0, none⟩ ∨ w.heap.size ≤ b) : Fr3 g sb na w w' :=
  ⟨h.os, h.tape, h.output, h.size, fun k hk h3 h4 h5 => h.block k hk (fun e => by
    subst e
    rcases hb with hb | hb | hb | hb
    · exact h3 hb
    · exact h4 hb
    · exact h5 hb
    · omega)⟩
theorem Fr3.fresh {g sb b : Nat} {na : Option Addr} {w w1 w2 : World} (h : Fr3 g sb na w w1) (ho : OnlyB b w1 w2) (hb : w.heap.size ≤ b) : Fr3 g sb na w w2 :=
  ⟨ho.os.trans h.os, ho.tape.trans h.tape, ho.output.trans h.output, Nat.le_trans h.size ho.size, fun k hk h3 h4 h5 => by
    rw [ho.block k (Nat.lt_of_lt_of_le hk h.size) (by omega)]
    exact h.block k hk h3 h4 h5⟩
theorem TSt.types {B0 g sb N : Nat} {rt : Int} {w : World} {ns : List NdK} {nv : Nat → NdV} {na : Option Addr} {nc : Nat} {seen : List Int} {tall : Int} {bad : Bool} (h : TSt B0 g sb N rt w ns nv na nc seen tall bad) {k : Nat} {cs : Array Value} {t : Nat} {fr : Nat × Nat} (hk : w.heap[k]? = some (.cells cs t fr)) (h1 : t ≠ 207) (h2 : t ≠ 4) (h3 : t ≠ 257) :
    k ≠ g ∧ k ≠ sb ∧ na ≠ some ⟨k, 0, none⟩ := by
  refine ⟨fun e => ?_, fun e => ?_, fun e => ?_⟩
  · subst e
    have := h.blk
    unfold Blk at this
    rw [hk] at this
    cases this
    exact h1 rfl
  · subst e
    obtain ⟨_, cur, hc⟩ := h.mks.blk
    rw [hk] at hc
    cases hc
    exact h2 rfl
  · subst e
    obtain ⟨_, cur, hc⟩ := h.nodes.blk
    rw [hk] at hc
    cases hc
    exact h3 rfl
theorem Fr3.keepT {B0 g sb N : Nat} {rt : Int} {w w' : World} {ns : List NdK} {nv : Nat → NdV} {na : Option Addr} {nc : Nat} {seen : List Int} {tall : Int} {bad : Bool} (f : Fr3 g sb na w w') (h : TSt B0 g sb N rt w ns nv na nc seen tall bad) {t : Nat} (h1 : t ≠ 207) (h2 : t ≠ 4) (h3 : t ≠ 257) : KeepT t w w' :=
  ⟨f.size, fun k cs fr hk => by
    obtain ⟨a1, a2, a3⟩ := h.types hk h1 h2 h3
    rw [f.block k (Array.getElem?_eq_some_iff.1 hk).1 a1 a2 a3]
    exact hk⟩
theorem Fr3.onlyG {B0 g sb N : Nat} {rt : Int} {w0 w w' : World} {ns : List NdK} {nv : Nat → NdV} {na : Option Addr} {nc : Nat} {seen : List Int} {tall : Int} {bad : Bool} (f : Fr3 g sb na w w') (h : TSt B0 g sb N rt w ns nv na nc seen tall bad) (hB : w0.heap.size ≤ B0) (hw : OnlyB g w0 w) : OnlyB g w0 w' :=
  ⟨f.os.trans hw.os, f.tape.trans hw.tape, f.output.trans hw.output, Nat.le_trans hw.size f.size, fun k hk hn => by
    have hl := hw.size
    rw [f.block k (by omega) hn ?_ ?_]
    · exact hw.block k hk hn
    · have := h.mks.blk.1; omega
    · intro e; subst e; have := h.nodes.blk.1; omega⟩
theorem TSt.belowT {B0 g sb N : Nat} {rt : Int} {w w' : World} {ns : List NdK} {nv : Nat → NdV} {na : Option Addr} {nc : Nat} {seen : List Int} {tall : Int} {bad : Bool} (h : TSt B0 g sb N rt w ns nv na nc seen tall bad) (hb : Below w.heap.size w w') : TSt B0 g sb N rt w' ns nv na nc seen tall bad :=
  ⟨h.blk.below hb, h.mks.below hb, h.nodes.below hb, fun i hi => (h.each i hi).below hb, Nat.le_trans h.gB hb.size, h.ok⟩
theorem TSt.other {B0 g sb N b e : Nat} {rt : Int} {w w' : World} {ns : List NdK} {nv : Nat → NdV} {na : Option Addr} {nc : Nat} {seen : List Int} {tall : Int} {bad : Bool} {xs : List Value} (h : TSt B0 g sb N rt w ns nv na nc seen tall bad) (ho : OnlyB b w w') (hb : ∃ cur, w.heap[b]? = some (.cells cur e (0, 0))) (h1 : e ≠ 207) (h2 : e ≠ 4)
    (h3 : e ≠ 257 ∨ na ≠ some ⟨b, 0, none⟩) (h4 : e ≠ 9) (h5 : e ≠ 3 ∨ ∀ i, i < ns.length → (nv i).da ≠ some ⟨b, 0, none⟩) : TSt B0 g sb N rt w' ns nv na nc seen tall bad := by
  obtain ⟨cur, hc⟩ := hb
  have hk : ∀ t, e ≠ t → KeepT t w w' := fun t ht => ⟨ho.size, fun k cs fr hk => by
    by_cases ek : k = b
    · subst ek; rw [hc] at hk; cases hk; exact absurd rfl ht
    · rw [ho.block k (Array.getElem?_eq_some_iff.1 hk).1 ek]; exact hk⟩
  refine ⟨h.blk.keepT (hk _ h1), h.mks.keep (hk _ h2), h.nodes.keep (fun k ek => ?_), fun i hi => ?_, Nat.le_trans h.gB ho.size, h.ok⟩
  · subst ek
    obtain ⟨_, cur2, hc2⟩ := h.nodes.blk
    refine ho.block k (Array.getElem?_eq_some_iff.1 hc2).1 (fun ek => ?_)
    subst ek
    rcases h3 with h3 | h3
    · rw [hc] at hc2; cases hc2; exact h3 rfl
    · exact h3 rfl
  · have hE := h.each i hi
    refine ⟨hE.keys.keep (hk _ h4), hE.vals.keep (hk _ h4), ?_, hE.signs.keep (hk _ h4)⟩
    rcases h5 with h5 | h5
    · exact hE.kids.keep (hk _ h5)
    · refine ⟨hE.kids.1, ?_⟩
      rcases hE.kids.2 with h6 | ⟨k, cap, cur3, hv, hg, hh, r⟩
      · exact Or.inl h6
      · refine Or.inr ⟨k, cap, cur3, hv, hg, ?_, r⟩
        have : (nv i).da = some ⟨k, 0, none⟩ := by simp only [Value.slice.injEq] at hv; exact hv.1
        rw [ho.block k (Array.getElem?_eq_some_iff.1 hh).1 (fun ek => by subst ek; exact h5 i hi this)]
        exact hh
theorem TSt.set {B0 g sb N : Nat} {rt : Int} {w : World} {ns : List NdK} {nv : Nat → NdV} {na : Option Addr} {nc : Nat} {seen : List Int} {tall tall' : Int} {bad bad' : Bool} (h : TSt B0 g sb N rt w ns nv na nc seen tall bad) (i : Nat) (x : Value) (e : (trc na ns.length nc rt sb N tall bad).set i x = trc na ns.length nc rt sb N tall' bad') : TSt B0 g sb N rt (w.setCell ⟨g, i, none⟩ x) ns nv na nc seen tall' bad' := by
  have ho := onlyB_setCell w g i x
  have hk : ∀ t, 207 ≠ t → KeepT t w (w.setCell ⟨g, i, none⟩ x) := fun t ht => keepT_only ho h.blk ht
  have k1 := h.blk.set i x
  rw [e] at k1
  exact ⟨k1, h.mks.keep (hk _ (by decide)), ownsRow_keepT h.nodes (hk _ (by decide)), fun i hi => (h.each i hi).keep (hk _ (by decide)) (hk _ (by decide)), Nat.le_trans h.gB ho.size, h.ok⟩
theorem TSt.mark {B0 g sb N : Nat} {rt : Int} {w : World} {ns : List NdK} {nv : Nat → NdV} {na : Option Addr} {nc : Nat} {seen : List Int} {tall : Int} {bad : Bool} (h : TSt B0 g sb N rt w ns nv na nc seen tall bad) {i : Nat} (hi : i < N) (hs : (i : Int) ∉ seen) : TSt B0 g sb N rt (w.setCell ⟨sb, i, none⟩ (.bool true)) ns nv na nc ((i : Int) :: seen) tall bad := by
  have ho := onlyB_setCell w sb i (.bool true)
  obtain ⟨_, cur, hc⟩ := h.mks.blk
  have hk : ∀ t, 4 ≠ t → KeepT t w (w.setCell ⟨sb, i, none⟩ (.bool true)) := fun t ht => ⟨ho.size, fun k cs fr hk => by
    by_cases ek : k = sb
    · subst ek; rw [hc] at hk; cases hk; exact absurd rfl ht
    · rw [ho.block k (Array.getElem?_eq_some_iff.1 hk).1 ek]; exact hk⟩
  have s1 := h.mks.set i (.bool true)
  rw [mkB_set _ _ _ hi] at s1
  exact ⟨h.blk.keepT (hk _ (by decide)), s1, ownsRow_keepT h.nodes (hk _ (by decide)), fun i hi => (h.each i hi).keep (hk _ (by decide)) (hk _ (by decide)), Nat.le_trans h.gB ho.size, h.ok.cons (by omega) (by omega) hs⟩
theorem elNd : ElT 205 257 6 (.agg (ndc nilV nd0).toArray) 112 := ⟨Tryz.underlying205, by kernel_rfl, rfl, by omega⟩
theorem ndc_one (v : NdV) (K : NdK) : ∀ u ∈ ndc v K, u.oneCell' = true := by
  intro x hx
  simp [ndc] at hx
  rcases hx with rfl | rfl | rfl | rfl | rfl | rfl <;> rfl
def updN {α : Type} (f : Nat → α) (n : Nat) (x : α) : Nat → α := fun i => if i = n then x else f i
theorem updN_same {α : Type} (f : Nat → α) (n : Nat) (x : α) : updN f n x n = x := by simp [updN]
theorem updN_lt {α : Type} (f : Nat → α) {n i : Nat} (x : α) (h : i < n) : updN f n x i = f i := by simp [updN, Nat.ne_of_lt h]
theorem TSt.push {B0 g sb N : Nat} {rt : Int} {w w8 : World} {ns : List NdK} {nv : Nat → NdV} {na : Option Addr} {nc : Nat} {seen : List Int} {tall : Int} {bad : Bool} (h : TSt B0 g sb N rt w ns nv na nc seen tall bad) {v : NdV} {K : NdK} (o : ONd 0 w v K) {g8 c8 : Nat}
    (o8 : ORow 257 6 B0 w8 (some ⟨g8, 0, none⟩) (ns.length + 1) c8 (updR (ndsF nv ns) ns.length (ndc v K))) (b8 : Below B0 w w8) (gr : (w.alloc (.cells (ndc v K).toArray 257)).grownBy w8 (Value.slice na ns.length nc).ownBlock) :
    TSt B0 g sb N rt (w8.setCell ⟨g, 0, none⟩ (.slice (some ⟨g8, 0, none⟩) (ns.length + 1) c8)) (ns ++ [K]) (updN nv ns.length v) (some ⟨g8, 0, none⟩) c8 seen tall bad := by
  have q0 : Below w.heap.size w (w.alloc (.cells (ndc v K).toArray 257)) := (Below.refl _ _).alloc (Nat.le_refl _) _
  have hA := h.belowT q0
  have hk : ∀ t, 257 ≠ t → KeepT t w w8 := fun t ht => (keepT_below q0).trans (keepT_grown (own_below h.nodes q0) gr ht)
  have kg : Blk w8 207 g _ := h.blk.keepT (hk _ (by decide))
  have ho := onlyB_setCell w8 g 0 (.slice (some ⟨g8, 0, none⟩) (ns.length + 1) c8)
  have hk2 : ∀ t, 207 ≠ t → KeepT t w8 (w8.setCell ⟨g, 0, none⟩ (.slice (some ⟨g8, 0, none⟩) (ns.length + 1) c8)) := fun t ht => keepT_only ho kg ht
  have k1 := kg.set 0 (.slice (some ⟨g8, 0, none⟩) (ns.length + 1) c8)
  refine ⟨?_, (h.mks.keep (hk _ (by decide))).keep (hk2 _ (by decide)), ?_, fun i hi => ?_, Nat.le_trans h.gB (Nat.le_trans b8.size ho.size), h.ok⟩
  · have e : (trc na ns.length nc rt sb N tall bad).set 0 (.slice (some ⟨g8, 0, none⟩) (ns.length + 1) c8) = trc (some ⟨g8, 0, none⟩) (ns ++ [K]).length c8 rt sb N tall bad := by simp [trc]
    rw [e] at k1
    exact k1
  · have o9 := ownsRow_keepT o8 (hk2 _ (by decide))
    rw [List.length_append]
    refine ORow.congr (f := updR (ndsF nv ns) ns.length (ndc v K)) o9 (fun i hi => ?_)
    have hi' : i < ns.length + 1 := hi
    by_cases e : i = ns.length
    · subst e; rw [updR_same]; unfold ndsF; rw [updN_same]; simp
    · rw [updR_lt _ _ (by omega)]; unfold ndsF; rw [updN_lt _ _ (by omega)]; simp [List.getD, List.getElem?_append_left (show i < ns.length by omega)]
  · rw [List.length_append] at hi
    have hi' : i < ns.length + 1 := hi
    by_cases e : i = ns.length
    · subst e
      rw [updN_same]
      have : (ns ++ [K]).getD ns.length nd0 = K := by simp
      rw [this]
      exact (o.keep (hk _ (by decide)) (hk _ (by decide))).keep (hk2 _ (by decide)) (hk2 _ (by decide))
    · rw [updN_lt _ _ (by omega)]
      have : (ns ++ [K]).getD i nd0 = ns.getD i nd0 := by simp [List.getD, List.getElem?_append_left (show i < ns.length by omega)]
      rw [this]
      exact ((h.each i (by omega)).keep (hk _ (by decide)) (hk _ (by decide))).keep (hk2 _ (by decide)) (hk2 _ (by decide))
theorem Fr3.push {g sb : Nat} {na : Option Addr} {w w8 : World} {n nc : Nat} {x : Value} {cs : Array Value} {t B : Nat} {f : Nat → List Value} (hn : ORow 257 6 B w na n nc f) (gr : (w.alloc (.cells cs t)).grownBy w8 (Value.slice na n nc).ownBlock) (hg : g < w.heap.size) : Fr3 g sb na w (w8.setCell ⟨g, 0, none⟩ x) := by
  have ho := onlyB_setCell w8 g 0 x
  have q0 : Below w.heap.size w (w.alloc (.cells cs t)) := (Below.refl _ _).alloc (Nat.le_refl _) _
  refine ⟨ho.os.trans (gr.os.trans q0.os), ho.tape.trans (gr.tape.trans q0.tape), ho.output.trans (gr.output.trans q0.output), Nat.le_trans q0.size (Nat.le_trans gr.size ho.size), fun k hk h1 h2 h3 => ?_⟩
  have hk8 : k < w8.heap.size := Nat.lt_of_lt_of_le hk (Nat.le_trans q0.size gr.size)
  rw [ho.block k hk8 h1, gr.block k (Nat.lt_of_lt_of_le hk q0.size) ?_]
  · exact q0.block k hk
  · intro e
    rcases hn.2 with ⟨e1, _⟩ | ⟨g', cap, cur, e1, _⟩
    · rw [e1] at e; simp [Value.ownBlock] at e
    · rw [e1] at e
      simp [Value.ownBlock] at e
      cases e1
      subst e
      exact h3 rfl
theorem rdK_none {r : St → Int → Option (Tr × St)} {s : ByteArray} {id : Int} {ls : List (ByteArray × Int)} {st : St} (h : r st id = none) : rdK r ((s, id) :: ls) st = none := by rw [rdK, h]; rfl
theorem rdK_step {r : St → Int → Option (Tr × St)} {s : ByteArray} {id : Int} {ls : List (ByteArray × Int)} {st st1 : St} {T : Tr} {ts : List (ByteArray × Tr)} (h : r st id = some (T, st1)) :
    (rdK r ((s, id) :: ls) st).map (fun y => (preK ts y.1, y.2)) = (rdK r ls st1).map (fun y => (preK (ts ++ [(s, T)]) y.1, y.2)) := by
  rw [rdK, h]
  simp only [Option.bind_some]
  cases rdK r ls st1 with
  | none => rfl
  | some y => simp [preK_app, preK]
end Go.Proofs.YtnohmedccbogkaaGreatDoor

namespace Go.Proofs.YtnohmedccbogkaaGreatDoor
open Go.RowKit
set_option linter.unusedVariables false
structure PgW (P : Pg) (N : Nat) : Prop where
  ok : ∀ t, P.ok t = true → 0 ≤ t ∧ t < (N : Int)
  byte : ∀ t, IsB (P.bd t)
  len : ∀ t, (P.bd t).length ≤ 1048576
  le : N ≤ 1024
def VwOk (P : Pg) (vs : Value) (g : Nat) (w0 : World) : Prop := ∀ u, OnlyB g w0 u → ∀ t, Calls Tryz.prog 179 #[.agg #[vs], .int .i64 t] u fun e w' => ∃ a c, e = .returned (.tuple #[.int .i64 (P.kd t), .slice a (P.bd t).length c, .bool (P.ok t)]) ∧ Below u.heap.size u w' ∧ Own u.heap.size w' a (P.bd t).length c (P.bd t)
structure RdQ (P : Pg) (B0 g sb N : Nat) (rt : Int) (f steps : Nat) (id : Int) (w : World) (ns : List NdK) (nv : Nat → NdV) (na : Option Addr) (seen : List Int) (tall : Int) (w' : World) (p : Int) (ms : List NdK) (nv' : Nat → NdV) (na' : Option Addr) (nc' : Nat) (seen' : List Int) (tall' : Int) (bad' : Bool) : Prop where
  fr : Fr3 g sb na w w'
  st : TSt B0 g sb N rt w' (ns ++ ms) nv' na' nc' seen' tall' bad'
  na : na' = na ∨ ∃ k, na' = some ⟨k, 0, none⟩ ∧ w.heap.size ≤ k
  old : ∀ i, i < ns.length → nv' i = nv i
  new : ∀ i k, ns.length ≤ i → i < (ns ++ ms).length → (nv' i).da = some ⟨k, 0, none⟩ → w.heap.size ≤ k
  le : (ns ++ ms).length + steps ≤ seen'.length
  le2 : seen.length ≤ seen'.length
  res : (bad' = false ∧ ∃ T, rdT P f steps ⟨seen, tall⟩ id = some (T, ⟨seen', tall'⟩) ∧ isT T = true ∧ Rep (ns ++ ms) T true [p] []) ∨ (bad' = true ∧ rdT P f steps ⟨seen, tall⟩ id = none)
def RdP (P : Pg) (B0 g sb N : Nat) (rt : Int) (f steps : Nat) (id : Int) (w : World) (ns : List NdK) (nv : Nat → NdV) (na : Option Addr) (seen : List Int) (tall : Int) (e : Ending) (w' : World) : Prop := ∃ p ms nv' na' nc' seen' tall' bad', e = .returned (.int .i64 p) ∧ RdQ P B0 g sb N rt f steps id w ns nv na seen tall w' p ms nv' na' nc' seen' tall' bad'
theorem rdP_mk {P : Pg} {B0 g sb N : Nat} {rt : Int} {f steps : Nat} {id : Int} {w : World} {ns : List NdK} {nv : Nat → NdV} {na : Option Addr} {seen : List Int} {tall : Int} {w' : World} {p : Int} {ms : List NdK} {nv' : Nat → NdV} {na' : Option Addr} {nc' : Nat} {seen' : List Int} {tall' : Int} {bad' : Bool} (h : RdQ P B0 g sb N rt f steps id w ns nv na seen tall w' p ms nv' na' nc' seen' tall' bad') : RdP P B0 g sb N rt f steps id w ns nv na seen tall (.returned (.int .i64 p)) w' := ⟨_, _, _, _, _, _, _, _, rfl, h⟩
theorem rd_fail {P : Pg} {B0 g sb N : Nat} {rt : Int} {f steps : Nat} {id : Int} {w w1 w2 : World} {ns : List NdK} {nv : Nat → NdV} {na : Option Addr} {nc : Nat} {seen seen' : List Int} {tall tall' : Int} (p : Int) (fr : Fr3 g sb na w w2) (st : TSt B0 g sb N rt w2 ns nv na nc seen' tall' true) (hl : ns.length + steps ≤ seen.length) (hs : seen.length ≤ seen'.length) (hno : rdT P f steps ⟨seen, tall⟩ id = none) :
    RdQ P B0 g sb N rt f steps id w ns nv na seen tall w2 p [] nv na nc seen' tall' true :=
  ⟨fr, by rw [List.append_nil]; exact st, Or.inl rfl, fun _ _ => rfl, fun i k h1 h2 => by rw [List.append_nil] at h2; omega, by rw [List.append_nil]; omega, hs, Or.inr ⟨rfl, hno⟩⟩
theorem rdT_no {P : Pg} {f : Nat} {steps : Int} {st : St} {id : Int} (h : pgOk P st id = false) : rdT P (f + 1) steps st id = none := by rw [rdT, if_neg (by rw [h]; decide)]
def RdC (P : Pg) (N B0 g sb : Nat) (rt : Int) (vs : Value) (w0 : World) (f : Nat) : Prop := ∀ (steps : Nat) (id : Int) (ns : List NdK) (nv : Nat → NdV) (na : Option Addr) (nc : Nat) (seen : List Int) (tall : Int) (w : World), OnlyB g w0 w → TSt B0 g sb N rt w ns nv na nc seen tall false → N < f + seen.length → ns.length + steps ≤ seen.length →
    Calls Tryz.prog 180 #[.pointer (some ⟨g, 0, none⟩), .agg #[vs], .int .i64 id, .int .i64 (steps : Nat)] w fun e w' => RdP P B0 g sb N rt f steps id w ns nv na seen tall e w'
set_option maxHeartbeats 4000000 in
set_option maxRecDepth 100000 in
theorem read_bad (P : Pg) (N B0 g sb : Nat) (rt : Int) (vs : Value) (w0 : World) (PW : PgW P N) (HV : VwOk P vs g w0) (hB0 : w0.heap.size ≤ B0) (f : Nat) (steps : Nat) (id : Int) (ns : List NdK) (nv : Nat → NdV) (na : Option Addr) (nc : Nat) (seen : List Int) (tall : Int) (w : World) (hw : OnlyB g w0 w) (st : TSt B0 g sb N rt w ns nv na nc seen tall false) (hl : ns.length + steps ≤ seen.length) (hbad : pgOk P ⟨seen, tall⟩ id = false) :
    Calls Tryz.prog 180 #[.pointer (some ⟨g, 0, none⟩), .agg #[vs], .int .i64 id, .int .i64 (steps : Nat)] w fun e w' => RdP P B0 g sb N rt (f + 1) steps id w ns nv na seen tall e w' := by
  have hNle := PW.le
  have hsl := st.ok.le
  have q0 : Below w.heap.size w (w.alloc (Obj.cells #[vs] 249)) := (Below.refl _ _).alloc (Nat.le_refl _) _
  have kV := blk_new w 249 #[vs]
  have st0 := st.belowT q0
  have f0 : Fr3 g sb na w (w.alloc (Obj.cells #[vs] 249)) := Fr3.ofBelow q0
  have z0 : (w.alloc (Obj.cells #[vs] 249)).heap.size = w.heap.size + 1 := by simp
  have sV : (Tryz.prog.info? 249).map (·.size) = some (#[vs] : Array Value).size := by kernel_rfl
  go_enter Tryz.func180, Tryz.ntmps180
  go_upto_region 1 with fail
  change Code.wp _ _ _ _ (w.alloc (Obj.cells #[vs] 249))
  generalize w.alloc (Obj.cells #[vs] 249) = W at *
  have hz0 : w.heap.size < W.heap.size := by omega
  clear z0
  have hW : OnlyB g w0 W := f0.onlyG st hB0 hw
  have PGC := HV W hW id
  have hIB := PW.byte id
  have hbl := PW.len id
  have hokr := PW.ok id
  have kV' : Blk W 249 w.heap.size [vs] := kV
  clear kV HV
  have PY : Hid (¬ (P.ok id = true ∧ 2 ≤ id ∧ id ∉ seen ∧ (P.kd id = 2 ∨ P.kd id = 3))) := fun h => by rw [pgOk_iff.2 h] at hbad; cases hbad
  have RNB := rdT_no (P := P) (f := f) (steps := (steps : Nat)) hbad
  generalize hokd : P.ok id = okb at *
  generalize hkd : P.kd id = kd at *
  generalize hbd : P.bd id = bd at *
  clear hokd hkd hbd
  generalize hbn : bd.length = bn at *
  go_wp2_with (refine wpList_load_row rfl 249 _ rfl w.heap.size rfl 249 #[vs] (0, 0) _ kV' Tryz.underlying249 rfl sV ?_)
  refine PGC.mono ?_
  rintro e w1 ⟨a1, c1, rfl, b1, o1⟩
  have st1 := st0.belowT b1
  have f1 : Fr3 g sb na w w1 := f0.trans (Fr3.ofBelow b1) (Or.inl rfl)
  have kV1 := kV'.below b1
  have bs1 := o1.bs hIB
  have cT4 : w1.cell? ⟨g, 4, none⟩ = some (.bool false) := st1.blk.cell 4
  have fT4 := st1.blk.free 4
  have cT2 : w1.cell? ⟨g, 2, none⟩ = some (.slice (some ⟨sb, 0, none⟩) N N) := st1.blk.cell 2
  have hz1 : W.heap.size ≤ w1.heap.size := b1.size
  have H1 : Hid _ := And.intro st1 (And.intro f1 (And.intro kV1 (And.intro bs1 o1)))
  clear PGC st1 f1 kV1 bs1 o1 b1 st0 f0 kV' q0
  have setB : (trc na ns.length nc rt sb N tall false).set 4 (.bool true) = trc na ns.length nc rt sb N tall true := rfl
  have BAD : Hid (∀ p : Int, RdQ P B0 g sb N rt (f + 1) steps id w ns nv na seen tall (w1.setCell ⟨g, 4, none⟩ (.bool true)) p [] nv na nc seen tall true) := fun p =>
    rd_fail (w1 := w1) p (H1.out.2.1.trans (Fr3.only (onlyB_setCell w1 g 4 (.bool true)) (Or.inl rfl)) (Or.inl rfl)) (H1.out.1.set 4 (.bool true) setB) hl (Nat.le_refl _) RNB
  clear setB
  cases okb with
  | false =>
    have B1 := BAD.out (-1)
    have HB1 : Hid _ := B1
    clear B1 BAD
    go_wp2_with fail
    go_ret
    exact rdP_mk HB1.out
  | true =>
  obtain ⟨hid0, hidN⟩ := hokr rfl
  obtain ⟨i, rfl⟩ := Int.eq_ofNat_of_zero_le hid0
  have hiN : i < N := by omega
  by_cases h2 : (i : Int) < 2
  · have B1 := BAD.out (-1)
    have HB1 : Hid _ := B1
    clear B1 BAD
    go_wp2_with fail
    go_ret
    exact rdP_mk HB1.out
  have hcS : w1.cell? ⟨sb, i, none⟩ = some (.bool (seen.contains (i : Int))) := by
    obtain ⟨g', e1, _, _, _, hc⟩ := H1.out.1.mks.at_ (by omega)
    cases e1
    rw [hc i hiN, mkB_get _ _ _ hiN]
  have hfS : w1.frozen? ⟨sb, i, none⟩ = false := H1.out.1.mks.free i
  have h2' : 2 ≤ (i : Int) := by omega
  cases hsc : seen.contains (i : Int) with
  | true =>
    rw [hsc] at hcS
    have B1 := BAD.out (-1)
    have HB1 : Hid _ := B1
    clear B1 BAD hsc
    go_wp2_with fail
    go_ret
    exact rdP_mk HB1.out
  | false =>
  rw [hsc] at hcS
  have hns : (i : Int) ∉ seen := fun hm => by rw [List.contains_iff_mem.2 hm] at hsc; cases hsc
  clear hsc
  by_cases hk23 : kd = 2 ∨ kd = 3
  case neg =>
    have hk2 : ¬ kd = 2 := fun e => hk23 (Or.inl e)
    have hk3 : ¬ kd = 3 := fun e => hk23 (Or.inr e)
    have t2 : (kd != 2) = true := by simp [hk2]
    have t3 : (kd != 3) = true := by simp [hk3]
    have B1 := BAD.out (-1)
    have HB1 : Hid _ := B1
    clear B1 BAD hk2 hk3
    go_wp2_with fail
    go_ret
    exact rdP_mk HB1.out
  case pos => exact absurd ⟨rfl, h2', hns, hk23⟩ PY.out
end Go.Proofs.YtnohmedccbogkaaGreatDoor

namespace Go.Proofs.YtnohmedccbogkaaGreatDoor
open Go.RowKit
set_option linter.unusedVariables false
set_option maxHeartbeats 4000000 in
set_option maxRecDepth 100000 in
theorem read_leaf (P : Pg) (N B0 g sb : Nat) (rt : Int) (vs : Value) (w0 : World) (PW : PgW P N) (HV : VwOk P vs g w0) (hB0 : w0.heap.size ≤ B0) (f : Nat) (steps : Nat) (id : Int) (ns : List NdK) (nv : Nat → NdV) (na : Option Addr) (nc : Nat) (seen : List Int) (tall : Int) (w : World) (hw : OnlyB g w0 w) (st : TSt B0 g sb N rt w ns nv na nc seen tall false) (hl : ns.length + steps ≤ seen.length) (hok : P.ok id = true) (h2 : 2 ≤ id) (hns : id ∉ seen) (hkd : P.kd id = 2) :
    Calls Tryz.prog 180 #[.pointer (some ⟨g, 0, none⟩), .agg #[vs], .int .i64 id, .int .i64 (steps : Nat)] w fun e w' => RdP P B0 g sb N rt (f + 1) steps id w ns nv na seen tall e w' := by
  have hNle := PW.le
  have hsl := st.ok.le
  have q0 : Below w.heap.size w (w.alloc (Obj.cells #[vs] 249)) := (Below.refl _ _).alloc (Nat.le_refl _) _
  have kV := blk_new w 249 #[vs]
  have st0 := st.belowT q0
  have f0 : Fr3 g sb na w (w.alloc (Obj.cells #[vs] 249)) := Fr3.ofBelow q0
  have z0 : (w.alloc (Obj.cells #[vs] 249)).heap.size = w.heap.size + 1 := by simp
  have sV : (Tryz.prog.info? 249).map (·.size) = some (#[vs] : Array Value).size := by kernel_rfl
  go_enter Tryz.func180, Tryz.ntmps180
  go_upto_region 1 with fail
  change Code.wp _ _ _ _ (w.alloc (Obj.cells #[vs] 249))
  generalize w.alloc (Obj.cells #[vs] 249) = W at *
  have hz0 : w.heap.size < W.heap.size := by omega
  clear z0
  have hW : OnlyB g w0 W := f0.onlyG st hB0 hw
  have PGC := HV W hW id
  have hIB := PW.byte id
  have hbl := PW.len id
  have hokr := PW.ok id
  have kV' : Blk W 249 w.heap.size [vs] := kV
  clear kV HV
  obtain ⟨hid0, hidN⟩ := hokr hok
  have HRT : Hid (rdT P (f + 1) steps ⟨seen, tall⟩ id = (if tall < 0 ∨ tall = (steps : Nat) then (lfP (P.bd id)).bind fun es => if es.isEmpty then none else some (.leaf id es, ⟨id :: seen, (steps : Nat)⟩) else none)) := by
    show rdT P (f + 1) steps ⟨seen, tall⟩ id = _
    rw [rdT, if_pos (pgOk_iff.2 ⟨hok, h2, hns, Or.inl hkd⟩), if_pos hkd]
  rw [hok, hkd] at PGC
  clear hokr hok hkd
  obtain ⟨i, rfl⟩ := Int.eq_ofNat_of_zero_le hid0
  have hiN : i < N := by omega
  generalize hbd : P.bd (i : Int) = bd at *
  clear hbd
  generalize hbn : bd.length = bn at *
  go_wp2_with (refine wpList_load_row rfl 249 _ rfl w.heap.size rfl 249 #[vs] (0, 0) _ kV' Tryz.underlying249 rfl sV ?_)
  refine PGC.mono ?_
  rintro e w1 ⟨a1, c1, rfl, b1, o1⟩
  have st1 := st0.belowT b1
  have f1 : Fr3 g sb na w w1 := f0.trans (Fr3.ofBelow b1) (Or.inl rfl)
  have kV1 := kV'.below b1
  have bs1 := o1.bs hIB
  have cT2 : w1.cell? ⟨g, 2, none⟩ = some (.slice (some ⟨sb, 0, none⟩) N N) := st1.blk.cell 2
  have hz1 : W.heap.size ≤ w1.heap.size := b1.size
  have H1 : Hid _ := And.intro st1 (And.intro f1 (And.intro kV1 (And.intro bs1 o1)))
  clear PGC st1 f1 kV1 bs1 o1 b1 st0 f0 kV' q0
  have hcS : w1.cell? ⟨sb, i, none⟩ = some (.bool false) := by
    obtain ⟨g', e1, _, _, _, hc⟩ := H1.out.1.mks.at_ (by omega)
    cases e1
    rw [hc i hiN, mkB_get _ _ _ hiN]
    cases hsc : seen.contains (i : Int) with
    | false => rfl
    | true => exact absurd (List.contains_iff_mem.1 hsc) hns
  have hfS : w1.frozen? ⟨sb, i, none⟩ = false := H1.out.1.mks.free i
  have ho2 := onlyB_setCell w1 sb i (.bool true)
  have st2 := H1.out.1.mark hiN hns
  have f2 : Fr3 g sb na w (w1.setCell ⟨sb, i, none⟩ (.bool true)) := H1.out.2.1.trans (Fr3.only ho2 (Or.inr (Or.inl rfl))) (Or.inl rfl)
  obtain ⟨_, curS, hcurS⟩ := H1.out.1.mks.blk
  have kp2 : ∀ t, 4 ≠ t → KeepT t w1 (w1.setCell ⟨sb, i, none⟩ (.bool true)) := fun t ht => keepT_onlyC ho2 hcurS ht
  have kV2 := H1.out.2.2.1.keepT (kp2 _ (by decide))
  have o2 : Own W.heap.size (w1.setCell ⟨sb, i, none⟩ (.bool true)) a1 bn c1 bd := ownsRow_keepT H1.out.2.2.2.2 (kp2 _ (by decide))
  have bs2 := o2.bs hIB
  have hz2 : w1.heap.size ≤ (w1.setCell ⟨sb, i, none⟩ (.bool true)).heap.size := ho2.size
  have LF := l3Leaf_calls a1 bn c1 bd _ bs2 (by omega)
  have H2 : Hid _ := And.intro st2 (And.intro f2 (And.intro kV2 bs2))
  clear H1 st2 f2 kV2 o2 bs2 kp2 hcurS ho2
  go_upto_region 6 with fail
  clear cT2 hcS hfS
  generalize w1.setCell ⟨sb, i, none⟩ (.bool true) = W2 at *
  go_wp2_with fail
  refine LF.mono ?_
  rintro e w3 ⟨v3, K3, ok3, rfl, b3, O3, hres⟩
  have HRES : Hid _ := hres
  clear hres LF
  have st3 := H2.out.1.belowT b3
  have f3 : Fr3 g sb na w w3 := H2.out.2.1.trans (Fr3.ofBelow b3) (Or.inl rfl)
  have q3 : Below w3.heap.size w3 (w3.alloc (Obj.cells (ndc v3 K3).toArray 257)) := (Below.refl _ _).alloc (Nat.le_refl _) _
  have kN := blk_new w3 257 (ndc v3 K3).toArray
  have st4 := st3.belowT q3
  have f4 : Fr3 g sb na w (w3.alloc (Obj.cells (ndc v3 K3).toArray 257)) := f3.trans (Fr3.ofBelow q3) (Or.inl rfl)
  have O4 := O3.below q3
  have hna : na ≠ some ⟨w3.heap.size, 0, none⟩ := fun e => by
    have hh := st3.nodes
    rw [e] at hh
    obtain ⟨_, cur, hc⟩ := hh.blk
    have := (Array.getElem?_eq_some_iff.1 hc).1
    omega
  have hzz : W2.heap.size ≤ w3.heap.size := b3.size
  clear H2 st3 f3 q3 b3 O3
  go_upto_region 7 with (refine wpList_storeNew rfl 257 _ _ rfl w3 (ndc nilV nd0).toArray (ndc v3 K3).toArray 257 rfl rfl sizeNd rfl (ndc_all _ _) ?_)
  change Code.wp _ _ _ _ (w3.alloc (Obj.cells (ndc v3 K3).toArray 257))
  generalize w3.alloc (Obj.cells (ndc v3 K3).toArray 257) = W4 at *
  have kN4 : Blk W4 257 w3.heap.size (ndc v3 K3) := kN
  clear kN
  generalize w3.heap.size = nb at *
  have cT3 : W4.cell? ⟨g, 3, none⟩ = some (.int .i64 tall) := st4.blk.cell 3
  have fT3 := st4.blk.free 3
  have cT4 : W4.cell? ⟨g, 4, none⟩ = some (.bool false) := st4.blk.cell 4
  have fT4 := st4.blk.free 4
  have cN4 : W4.cell? ⟨nb, 4, none⟩ = some (.slice v3.da K3.kids.length v3.dc) := kN4.cell 4
  have cN0 : W4.cell? ⟨nb, 0, none⟩ = some (.int .i64 K3.page) := kN4.cell 0
  have fN0 := kN4.free 0
  have H4 : Hid _ := And.intro st4 (And.intro f4 (And.intro O4 (And.intro kN4 hna)))
  clear st4 f4 O4 kN4 hna
  have hlc : ns.length + steps ≤ ((i : Int) :: seen).length := by rw [List.length_cons]; omega
  have hsc2 : seen.length ≤ ((i : Int) :: seen).length := by rw [List.length_cons]; omega
  have HL : Hid _ := And.intro hlc hsc2
  clear hlc hsc2
  have BAD1 : Hid (∀ p, rdT P (f + 1) steps ⟨seen, tall⟩ (i : Int) = none → RdQ P B0 g sb N rt (f + 1) steps (i : Int) w ns nv na seen tall (W4.setCell ⟨g, 4, none⟩ (.bool true)) p [] nv na nc ((i : Int) :: seen) tall true) := fun p hp =>
    rd_fail (w1 := W4) p (H4.out.2.1.trans (Fr3.only (onlyB_setCell W4 g 4 (.bool true)) (Or.inl rfl)) (Or.inl rfl)) (H4.out.1.set 4 (.bool true) rfl) hl HL.out.2 hp
  have BAD2 : Hid (∀ p, rdT P (f + 1) steps ⟨seen, tall⟩ (i : Int) = none → RdQ P B0 g sb N rt (f + 1) steps (i : Int) w ns nv na seen tall ((W4.setCell ⟨g, 4, none⟩ (.bool true)).setCell ⟨g, 4, none⟩ (.bool true)) p [] nv na nc ((i : Int) :: seen) tall true) := fun p hp =>
    rd_fail (w1 := W4) p ((H4.out.2.1.trans (Fr3.only (onlyB_setCell W4 g 4 (.bool true)) (Or.inl rfl)) (Or.inl rfl)).trans (Fr3.only (onlyB_setCell (W4.setCell ⟨g, 4, none⟩ (.bool true)) g 4 (.bool true)) (Or.inl rfl)) (Or.inl rfl)) ((H4.out.1.set 4 (.bool true) rfl).set 4 (.bool true) rfl) hl HL.out.2 hp
  by_cases htl : 0 ≤ tall ∧ ¬ tall = (steps : Nat)
  · have ht0 : 0 ≤ tall := htl.1
    have htn : (tall != (steps : Nat)) = true := by simp [htl.2]
    have hno : rdT P (f + 1) steps ⟨seen, tall⟩ (i : Int) = none := by rw [HRT.out, if_neg (by omega)]
    have HB1 : Hid _ := BAD2.out (-1) hno
    clear BAD1 BAD2 hno
    cases ok3 with
    | false =>
      go_wp2_with fail
      go_ret
      exact rdP_mk HB1.out
    | true =>
      go_wp2_with fail
      go_ret
      exact rdP_mk HB1.out
  have htl' : tall < 0 ∨ tall = (steps : Nat) := by omega
  have hnb : Hid (tall < 0 ∨ tall = (steps : Nat)) := htl'
  rcases HRES.out with ⟨hok, es, hes, hne, hK⟩ | ⟨hok, hes⟩
  · subst hok
    have hyes : rdT P (f + 1) steps ⟨seen, tall⟩ (i : Int) = some (.leaf (i : Int) es, ⟨(i : Int) :: seen, (steps : Nat)⟩) := by
      rw [HRT.out, if_pos hnb.out, hes]
      show (if es.isEmpty = true then none else some _) = _
      rw [if_neg (by simpa using hne)]
    have HY : Hid _ := hyes
    clear hyes BAD1 BAD2 HRT HRES htl
    subst hK
    have hkl : (entK es).kids.length = 0 := rfl
    rw [hkl] at cN4
    have htS : (trc na ns.length nc rt sb N tall false).set 3 (.int .i64 (steps : Nat)) = trc na ns.length nc rt sb N (steps : Nat) false := rfl
    have oN := onlyB_setCell (W4.setCell ⟨g, 3, none⟩ (.int .i64 (steps : Nat))) nb 0 (.int .i64 (i : Int))
    have hgn : g ≠ nb := fun e => by
      subst e
      have h1 := H4.out.1.blk
      have h2 := H4.out.2.2.2.1
      unfold Blk at h1 h2
      rw [h1] at h2
      cases h2
    have oG := onlyB_setCell W4 g 3 (.int .i64 (steps : Nat))
    have kN5 := (H4.out.2.2.2.1.only oG (Ne.symm hgn)).set 0 (.int .i64 (i : Int))
    obtain ⟨Kn, hKn⟩ : ∃ K : NdK, K = ⟨(i : Int), true, es.map (fun x => x.1), es.map (fun x => x.2), [], []⟩ := ⟨_, rfl⟩
    have eN : (ndc v3 (entK es)).set 0 (.int .i64 (i : Int)) = ndc v3 Kn := by rw [hKn]; rfl
    rw [eN] at kN5
    have st5 := (H4.out.1.set 3 (.int .i64 (steps : Nat)) htS).other (xs := []) oN ⟨_, H4.out.2.2.2.1.only oG (Ne.symm hgn)⟩ (by decide) (by decide) (Or.inr H4.out.2.2.2.2) (by decide) (Or.inl (by decide))
    have kpt : ∀ t, 207 ≠ t → 257 ≠ t → KeepT t W4 ((W4.setCell ⟨g, 3, none⟩ (.int .i64 (steps : Nat))).setCell ⟨nb, 0, none⟩ (.int .i64 (i : Int))) := fun t h1 h2 => (keepT_only oG H4.out.1.blk h1).trans (keepT_only oN (H4.out.2.2.2.1.only oG (Ne.symm hgn)) h2)
    have O5 : ONd W2.heap.size ((W4.setCell ⟨g, 3, none⟩ (.int .i64 (steps : Nat))).setCell ⟨nb, 0, none⟩ (.int .i64 (i : Int))) v3 Kn := by
      have OO := H4.out.2.2.1.keep (kpt _ (by decide) (by decide)) (kpt _ (by decide) (by decide))
      rw [hKn]
      exact ⟨OO.keys, OO.vals, OO.kids, OO.signs⟩
    have f5 := (H4.out.2.1.trans (Fr3.only oG (Or.inl rfl)) (Or.inl rfl)).fresh oN (by omega)
    have H5 : Hid _ := And.intro st5 (And.intro f5 (And.intro O5 kN5))
    have cN4' : ((W4.setCell ⟨g, 3, none⟩ (.int .i64 (steps : Nat))).setCell ⟨nb, 0, none⟩ (.int .i64 (i : Int))).cell? ⟨nb, 4, none⟩ = some (.slice v3.da 0 v3.dc) := (kN5.cell 4).trans (by rw [hKn]; rfl)
    have HKN : Hid _ := hKn
    clear hKn
    have hHL := HL.out.1
    have hsk := H4.out.1.ok.le
    have hB4 : B0 ≤ W4.heap.size := H4.out.1.gB
    have hgW : g < W4.heap.size := H4.out.1.blk.lt
    have hkd : Hid (∀ k, v3.da = some ⟨k, 0, none⟩ → w.heap.size ≤ k) := fun k e => by
      have h5 := O5.kids
      rw [e] at h5
      have := h5.blk.1
      omega
    have HNA : Hid _ := H4.out.2.2.2.2
    clear st5 f5 O5 kN5 kpt oN oG eN htS hgn H4 hkl
    rcases htl' with htl' | htl'
    · go_upto_region 17 with fail
      generalize (W4.setCell ⟨g, 3, none⟩ (.int .i64 (steps : Nat))).setCell ⟨nb, 0, none⟩ (.int .i64 (i : Int)) = W5 at *
      clear cT3 fT3 cT4 fT4 cN4 cN0 fN0
      go_wp2_with fail
      go_loopw [14] (fun x wr => x = .int .i64 0 ∧ wr = W5) (fun _ _ => 0)
      case atStart => exact ⟨rfl, rfl⟩
      case round =>
        obtain ⟨rfl, hwr⟩ := hrel
        obtain rfl := hwr.symm
        clear hwr
        go_upto_region 21 with fail
        clear cN4'
        have drp : Below W5.heap.size W5 W5.drew := ⟨rfl, rfl, rfl, Nat.le_refl _, fun _ _ => rfl⟩
        have std := H5.out.1.belowT drp
        have kNd := H5.out.2.2.2.below drp
        have Od := H5.out.2.2.1.below drp
        have KEY : Hid (∀ u : World, Blk u 257 nb (ndc v3 Kn) → (Instr.loadAt 257 (.pointer (some ⟨nb, 0, none⟩))).run Tryz.prog u = .ok (.agg (ndc v3 Kn).toArray) u) := fun u hu => by
          simp only [Instr.loadAt, Instr.sureAddr, Sem.run_bind, Sem.run_pure, Result.andThen]
          exact run_loadVar_row u nb 257 257 (ndc v3 Kn).toArray (0, 0) _ hu Tryz.underlying257 rfl sizeNd
        have fd : Fr3 g sb na w W5.drew := H5.out.2.1.trans (Fr3.ofBelow (na := na) drp) (Or.inl rfl)
        refine wp_regionD (fun u => u.cell? ⟨g, 0, none⟩ = some (.slice na ns.length nc) ∧ (Instr.loadAt 257 (.pointer (some ⟨nb, 0, none⟩))).run Tryz.prog u = .ok (.agg (ndc v3 Kn).toArray) u) (fun k => decide (8 ≤ k)) (by kernel_rfl) ?_
        generalize W5.drew = WDp at *
        have cs : WDp.cell? ⟨g, 0, none⟩ = some (.slice na ns.length nc) ∧ (Instr.loadAt 257 (.pointer (some ⟨nb, 0, none⟩))).run Tryz.prog WDp = .ok (.agg (ndc v3 Kn).toArray) WDp := ⟨std.blk.cell 0, KEY.out _ kNd⟩
        have q7 : Below WDp.heap.size WDp (WDp.alloc (Obj.cells (ndc v3 Kn).toArray 257)) := (Below.refl _ _).alloc (Nat.le_refl _) _
        have cs7 : (WDp.alloc (Obj.cells (ndc v3 Kn).toArray 257)).cell? ⟨g, 0, none⟩ = some (.slice na ns.length nc) ∧ (Instr.loadAt 257 (.pointer (some ⟨nb, 0, none⟩))).run Tryz.prog (WDp.alloc (Obj.cells (ndc v3 Kn).toArray 257)) = .ok (.agg (ndc v3 Kn).toArray) (WDp.alloc (Obj.cells (ndc v3 Kn).toArray 257)) := ⟨(std.belowT q7).blk.cell 0, KEY.out _ (kNd.below q7)⟩
        have hBd : B0 ≤ WDp.heap.size := std.gB
        have HSd : Hid _ := And.intro std (And.intro fd Od)
        have HKD : Hid (∀ u : World, Blk u 257 nb (ndc v3 Kn) → (Instr.loadAt 257 (.pointer (some ⟨nb, 0, none⟩))).run Tryz.prog u = .ok (.agg (ndc v3 Kn).toArray) u) := KEY
        have HK7 : Hid _ := And.intro (kNd.below q7) q7
        clear std fd Od kNd q7 KEY drp
        refine takeV 0 129 (v := ?vvp0) rfl ?hyp0 cs ?restp0
        case hyp0 => (intro w hSw; obtain ⟨h1, h2⟩ := hSw; go_simp; try with_reducible rfl)
        simp only [Act.put, setL, List.set]
        refine takeV 1 130 (v := ?vvp1) rfl ?hyp1 cs ?restp1
        case hyp1 => (intro w hSw; obtain ⟨h1, h2⟩ := hSw; go_simp; try with_reducible rfl)
        simp only [Act.put, setL, List.set]
        refine takeV 2 131 (v := ?vvp2) rfl ?hyp2 cs ?restp2
        case hyp2 => (intro w hSw; obtain ⟨h1, h2⟩ := hSw; go_simp; try with_reducible rfl)
        simp only [Act.put, setL, List.set]
        refine takeV 3 132 (v := ?vvp3) rfl ?hyp3 cs ?restp3
        case hyp3 => (intro w hSw; obtain ⟨h1, h2⟩ := hSw; go_simp; try with_reducible rfl)
        simp only [Act.put, setL, List.set]
        refine takeV 4 133 (v := ?vvp4) rfl ?hyp4 cs ?restp4
        case hyp4 => (intro w hSw; obtain ⟨h1, h2⟩ := hSw; go_simp; try with_reducible rfl)
        simp only [Act.put, setL, List.set]
        refine takeV 5 134 (v := .agg (ndc v3 Kn).toArray) rfl ?hyp5 cs ?restp5
        case hyp5 => exact fun u hSw => yield_load (p := .pointer (some ⟨nb, 0, none⟩)) rfl rfl hSw.2
        simp only [Act.put, setL, List.set]
        refine wpAnyD_one 6 (by kernel_rfl) rfl (fun KK hK => ?_)
        rw [if_pos (show Region.wanted _ _ = true from rfl)]
        refine wp_buildSlice_eq1 _ _ _ rfl (v := .slice (some ⟨WDp.heap.size, 0, none⟩) 1 1) (w' := (WDp.alloc (Obj.cells (ndc v3 Kn).toArray 257))) ?bsp ?_
        case bsp =>
          simp only [List.map_toArray, List.map_cons, List.map_nil]
          exact run_bsRow elNd (by omega) (.agg (ndc v3 Kn).toArray) (ndc v3 Kn) rfl rfl WDp
        refine hK.out _ _ (fun _ => cs7) ?_
        clear hK KK
        refine wpAnyD_one 7 (by kernel_rfl) rfl (fun KK hK => ?_)
        rw [if_pos (show Region.wanted _ _ = true from rfl)]
        refine wp_appRowL _ _ elNd rfl B0 na ns.length nc (ndsF nv ns) rfl HSd.out.1.nodes (ndc v3 Kn) rfl (ndc_one _ _) rfl (by omega) (by omega) hBd ?_
        intro g8 c8 w8 o8 b8 gr8 at8
        have kN8 : Blk w8 257 nb (ndc v3 Kn) := by
          refine (gr8.block nb HK7.out.1.lt ?_).trans HK7.out.1
          intro e
          rcases HSd.out.1.nodes.2 with ⟨e1, _⟩ | ⟨g', cap', cur', e1, _⟩
          · rw [e1] at e; simp [Value.ownBlock] at e
          · rw [e1] at e
            simp [Value.ownBlock] at e
            simp only [Value.slice.injEq] at e1
            subst e
            exact HNA.out e1.1
        have k8 : Blk w8 207 g _ := HSd.out.1.blk.keepT ((keepT_below ((Below.refl _ _).alloc (Nat.le_refl _) _)).trans (keepT_grown (own_below HSd.out.1.nodes ((Below.refl _ _).alloc (Nat.le_refl _) _)) gr8 (by decide)))
        have c0 : w8.cell? ⟨g, 0, none⟩ = some (.slice na ns.length nc) := k8.cell 0
        refine hK.out _ _ (fun _ => ⟨c0, HKD.out _ kN8⟩) ?_
        clear hK KK
        have st8 := HSd.out.1.push (HSd.out.2.2.mono (Nat.zero_le _)) o8 b8 gr8
        have f8 : Fr3 g sb na w (w8.setCell ⟨g, 0, none⟩ (.slice (some ⟨g8, 0, none⟩) (ns.length + 1) c8)) := HSd.out.2.1.trans (Fr3.push HSd.out.1.nodes gr8 HSd.out.1.blk.lt) (Or.inl rfl)
        have fz0 := k8.free 0
        have hat : Hid (na = some ⟨g8, 0, none⟩ ∨ WDp.heap.size < g8) := at8
        have H8 : Hid _ := And.intro st8 f8
        have hWd : w.heap.size ≤ WDp.heap.size := HSd.out.2.1.size
        clear st8 f8 k8 o8 b8 gr8 at8 cs7 kN8 HK7 HKD
        refine wpAnyD_one 8 (by kernel_rfl) rfl (fun KK hK => ?_)
        rw [if_pos (show Region.wanted _ _ = true from rfl)]
        go_wp2_with fail
        refine hK.out _ _ (fun h => absurd h (by decide)) ?_
        clear hK KK
        refine wpAnyD_one 9 (by kernel_rfl) rfl (fun KK hK => ?_)
        rw [if_pos (show Region.wanted _ _ = true from rfl)]
        go_wp2_with fail
        refine hK.out _ _ (fun h => absurd h (by decide)) ?_
        clear hK KK
        refine wpAnyD_one 10 (by kernel_rfl) rfl (fun KK hK => ?_)
        rw [if_pos (show Region.wanted _ _ = true from rfl)]
        go_wp2_with fail
        refine hK.out _ _ (fun h => absurd h (by decide)) ?_
        clear hK KK
        refine wpAnyD_done (by kernel_rfl) ?_ _
        clear c0 fz0 cs
        generalize w8.setCell ⟨g, 0, none⟩ (.slice (some ⟨g8, 0, none⟩) (ns.length + 1) c8) = W9 at *
        have c9 : W9.cell? ⟨g, 0, none⟩ = some (.slice (some ⟨g8, 0, none⟩) (ns.length + 1) c8) := (H8.out.1.blk.cell 0).trans (by simp [trc])
        go_wp2_with fail
        go_ret
        have hp : RdQ P B0 g sb N rt (f + 1) steps (i : Int) w ns nv na seen tall W9 (ns.length : Nat) [Kn] (updN nv ns.length v3) (some ⟨g8, 0, none⟩) c8 ((i : Int) :: seen) (steps : Nat) false := by
          refine ⟨H8.out.2, H8.out.1, ?_, fun j hj => updN_lt _ _ hj, fun j k h1 h2 h3 => ?_, ?_, HL.out.2, Or.inl ⟨rfl, _, HY.out, rfl, ?_⟩⟩
          · rcases hat.out with h | h
            · exact Or.inl h.symm
            · exact Or.inr ⟨g8, rfl, by omega⟩
          · have hj : j = ns.length := by rw [List.length_append] at h2; simp at h2; omega
            subst hj
            rw [updN_same] at h3
            exact hkd.out k h3
          · rw [List.length_append, List.length_cons]; simp; omega
          · rw [Rep]
            exact ⟨ns.length, rfl, by rw [HKN.out]; simp⟩
        first | exact rdP_mk hp | (refine (congrArg (fun x => RdP P B0 g sb N rt (f + 1) steps (i : Int) w ns nv na seen tall (.returned (.int .i64 x)) _) ?_).mp (rdP_mk hp); simp)
    · have htn : (tall != (steps : Nat)) = false := by simp [htl']
      have ht0 : 0 ≤ tall := by omega
      clear htl'
      go_upto_region 17 with fail
      generalize (W4.setCell ⟨g, 3, none⟩ (.int .i64 (steps : Nat))).setCell ⟨nb, 0, none⟩ (.int .i64 (i : Int)) = W5 at *
      clear cT3 fT3 cT4 fT4 cN4 cN0 fN0
      go_wp2_with fail
      go_loopw [14] (fun x wr => x = .int .i64 0 ∧ wr = W5) (fun _ _ => 0)
      case atStart => exact ⟨rfl, rfl⟩
      case round =>
        obtain ⟨rfl, hwr⟩ := hrel
        obtain rfl := hwr.symm
        clear hwr
        go_upto_region 21 with fail
        clear cN4'
        have drp : Below W5.heap.size W5 W5.drew := ⟨rfl, rfl, rfl, Nat.le_refl _, fun _ _ => rfl⟩
        have std := H5.out.1.belowT drp
        have kNd := H5.out.2.2.2.below drp
        have Od := H5.out.2.2.1.below drp
        have KEY : Hid (∀ u : World, Blk u 257 nb (ndc v3 Kn) → (Instr.loadAt 257 (.pointer (some ⟨nb, 0, none⟩))).run Tryz.prog u = .ok (.agg (ndc v3 Kn).toArray) u) := fun u hu => by
          simp only [Instr.loadAt, Instr.sureAddr, Sem.run_bind, Sem.run_pure, Result.andThen]
          exact run_loadVar_row u nb 257 257 (ndc v3 Kn).toArray (0, 0) _ hu Tryz.underlying257 rfl sizeNd
        have fd : Fr3 g sb na w W5.drew := H5.out.2.1.trans (Fr3.ofBelow (na := na) drp) (Or.inl rfl)
        refine wp_regionD (fun u => u.cell? ⟨g, 0, none⟩ = some (.slice na ns.length nc) ∧ (Instr.loadAt 257 (.pointer (some ⟨nb, 0, none⟩))).run Tryz.prog u = .ok (.agg (ndc v3 Kn).toArray) u) (fun k => decide (8 ≤ k)) (by kernel_rfl) ?_
        generalize W5.drew = WDp at *
        have cs : WDp.cell? ⟨g, 0, none⟩ = some (.slice na ns.length nc) ∧ (Instr.loadAt 257 (.pointer (some ⟨nb, 0, none⟩))).run Tryz.prog WDp = .ok (.agg (ndc v3 Kn).toArray) WDp := ⟨std.blk.cell 0, KEY.out _ kNd⟩
        have q7 : Below WDp.heap.size WDp (WDp.alloc (Obj.cells (ndc v3 Kn).toArray 257)) := (Below.refl _ _).alloc (Nat.le_refl _) _
        have cs7 : (WDp.alloc (Obj.cells (ndc v3 Kn).toArray 257)).cell? ⟨g, 0, none⟩ = some (.slice na ns.length nc) ∧ (Instr.loadAt 257 (.pointer (some ⟨nb, 0, none⟩))).run Tryz.prog (WDp.alloc (Obj.cells (ndc v3 Kn).toArray 257)) = .ok (.agg (ndc v3 Kn).toArray) (WDp.alloc (Obj.cells (ndc v3 Kn).toArray 257)) := ⟨(std.belowT q7).blk.cell 0, KEY.out _ (kNd.below q7)⟩
        have hBd : B0 ≤ WDp.heap.size := std.gB
        have HSd : Hid _ := And.intro std (And.intro fd Od)
        have HKD : Hid (∀ u : World, Blk u 257 nb (ndc v3 Kn) → (Instr.loadAt 257 (.pointer (some ⟨nb, 0, none⟩))).run Tryz.prog u = .ok (.agg (ndc v3 Kn).toArray) u) := KEY
        have HK7 : Hid _ := And.intro (kNd.below q7) q7
        clear std fd Od kNd q7 KEY drp
        refine takeV 0 129 (v := ?vvr0) rfl ?hyr0 cs ?restr0
        case hyr0 => (intro w hSw; obtain ⟨h1, h2⟩ := hSw; go_simp; try with_reducible rfl)
        simp only [Act.put, setL, List.set]
        refine takeV 1 130 (v := ?vvr1) rfl ?hyr1 cs ?restr1
        case hyr1 => (intro w hSw; obtain ⟨h1, h2⟩ := hSw; go_simp; try with_reducible rfl)
        simp only [Act.put, setL, List.set]
        refine takeV 2 131 (v := ?vvr2) rfl ?hyr2 cs ?restr2
        case hyr2 => (intro w hSw; obtain ⟨h1, h2⟩ := hSw; go_simp; try with_reducible rfl)
        simp only [Act.put, setL, List.set]
        refine takeV 3 132 (v := ?vvr3) rfl ?hyr3 cs ?restr3
        case hyr3 => (intro w hSw; obtain ⟨h1, h2⟩ := hSw; go_simp; try with_reducible rfl)
        simp only [Act.put, setL, List.set]
        refine takeV 4 133 (v := ?vvr4) rfl ?hyr4 cs ?restr4
        case hyr4 => (intro w hSw; obtain ⟨h1, h2⟩ := hSw; go_simp; try with_reducible rfl)
        simp only [Act.put, setL, List.set]
        refine takeV 5 134 (v := .agg (ndc v3 Kn).toArray) rfl ?hyr5 cs ?restr5
        case hyr5 => exact fun u hSw => yield_load (p := .pointer (some ⟨nb, 0, none⟩)) rfl rfl hSw.2
        simp only [Act.put, setL, List.set]
        refine wpAnyD_one 6 (by kernel_rfl) rfl (fun KK hK => ?_)
        rw [if_pos (show Region.wanted _ _ = true from rfl)]
        refine wp_buildSlice_eq1 _ _ _ rfl (v := .slice (some ⟨WDp.heap.size, 0, none⟩) 1 1) (w' := (WDp.alloc (Obj.cells (ndc v3 Kn).toArray 257))) ?bsr ?_
        case bsr =>
          simp only [List.map_toArray, List.map_cons, List.map_nil]
          exact run_bsRow elNd (by omega) (.agg (ndc v3 Kn).toArray) (ndc v3 Kn) rfl rfl WDp
        refine hK.out _ _ (fun _ => cs7) ?_
        clear hK KK
        refine wpAnyD_one 7 (by kernel_rfl) rfl (fun KK hK => ?_)
        rw [if_pos (show Region.wanted _ _ = true from rfl)]
        refine wp_appRowL _ _ elNd rfl B0 na ns.length nc (ndsF nv ns) rfl HSd.out.1.nodes (ndc v3 Kn) rfl (ndc_one _ _) rfl (by omega) (by omega) hBd ?_
        intro g8 c8 w8 o8 b8 gr8 at8
        have kN8 : Blk w8 257 nb (ndc v3 Kn) := by
          refine (gr8.block nb HK7.out.1.lt ?_).trans HK7.out.1
          intro e
          rcases HSd.out.1.nodes.2 with ⟨e1, _⟩ | ⟨g', cap', cur', e1, _⟩
          · rw [e1] at e; simp [Value.ownBlock] at e
          · rw [e1] at e
            simp [Value.ownBlock] at e
            simp only [Value.slice.injEq] at e1
            subst e
            exact HNA.out e1.1
        have k8 : Blk w8 207 g _ := HSd.out.1.blk.keepT ((keepT_below ((Below.refl _ _).alloc (Nat.le_refl _) _)).trans (keepT_grown (own_below HSd.out.1.nodes ((Below.refl _ _).alloc (Nat.le_refl _) _)) gr8 (by decide)))
        have c0 : w8.cell? ⟨g, 0, none⟩ = some (.slice na ns.length nc) := k8.cell 0
        refine hK.out _ _ (fun _ => ⟨c0, HKD.out _ kN8⟩) ?_
        clear hK KK
        have st8 := HSd.out.1.push (HSd.out.2.2.mono (Nat.zero_le _)) o8 b8 gr8
        have f8 : Fr3 g sb na w (w8.setCell ⟨g, 0, none⟩ (.slice (some ⟨g8, 0, none⟩) (ns.length + 1) c8)) := HSd.out.2.1.trans (Fr3.push HSd.out.1.nodes gr8 HSd.out.1.blk.lt) (Or.inl rfl)
        have fz0 := k8.free 0
        have hat : Hid (na = some ⟨g8, 0, none⟩ ∨ WDp.heap.size < g8) := at8
        have H8 : Hid _ := And.intro st8 f8
        have hWd : w.heap.size ≤ WDp.heap.size := HSd.out.2.1.size
        clear st8 f8 k8 o8 b8 gr8 at8 cs7 kN8 HK7 HKD
        refine wpAnyD_one 8 (by kernel_rfl) rfl (fun KK hK => ?_)
        rw [if_pos (show Region.wanted _ _ = true from rfl)]
        go_wp2_with fail
        refine hK.out _ _ (fun h => absurd h (by decide)) ?_
        clear hK KK
        refine wpAnyD_one 9 (by kernel_rfl) rfl (fun KK hK => ?_)
        rw [if_pos (show Region.wanted _ _ = true from rfl)]
        go_wp2_with fail
        refine hK.out _ _ (fun h => absurd h (by decide)) ?_
        clear hK KK
        refine wpAnyD_one 10 (by kernel_rfl) rfl (fun KK hK => ?_)
        rw [if_pos (show Region.wanted _ _ = true from rfl)]
        go_wp2_with fail
        refine hK.out _ _ (fun h => absurd h (by decide)) ?_
        clear hK KK
        refine wpAnyD_done (by kernel_rfl) ?_ _
        clear c0 fz0 cs
        generalize w8.setCell ⟨g, 0, none⟩ (.slice (some ⟨g8, 0, none⟩) (ns.length + 1) c8) = W9 at *
        have c9 : W9.cell? ⟨g, 0, none⟩ = some (.slice (some ⟨g8, 0, none⟩) (ns.length + 1) c8) := (H8.out.1.blk.cell 0).trans (by simp [trc])
        go_wp2_with fail
        go_ret
        have hp : RdQ P B0 g sb N rt (f + 1) steps (i : Int) w ns nv na seen tall W9 (ns.length : Nat) [Kn] (updN nv ns.length v3) (some ⟨g8, 0, none⟩) c8 ((i : Int) :: seen) (steps : Nat) false := by
          refine ⟨H8.out.2, H8.out.1, ?_, fun j hj => updN_lt _ _ hj, fun j k h1 h2 h3 => ?_, ?_, HL.out.2, Or.inl ⟨rfl, _, HY.out, rfl, ?_⟩⟩
          · rcases hat.out with h | h
            · exact Or.inl h.symm
            · exact Or.inr ⟨g8, rfl, by omega⟩
          · have hj : j = ns.length := by rw [List.length_append] at h2; simp at h2; omega
            subst hj
            rw [updN_same] at h3
            exact hkd.out k h3
          · rw [List.length_append, List.length_cons]; simp; omega
          · rw [Rep]
            exact ⟨ns.length, rfl, by rw [HKN.out]; simp⟩
        first | exact rdP_mk hp | (refine (congrArg (fun x => RdP P B0 g sb N rt (f + 1) steps (i : Int) w ns nv na seen tall (.returned (.int .i64 x)) _) ?_).mp (rdP_mk hp); simp)
  · subst hok
    have hno : rdT P (f + 1) steps ⟨seen, tall⟩ (i : Int) = none := by
      rw [HRT.out, if_pos hnb.out]
      rcases hes with hes | hes
      · rw [hes]; rfl
      · rw [hes]; rfl
    have HB1 : Hid _ := BAD1.out (-1) hno
    clear BAD1 BAD2 hno
    rcases htl' with htl' | htl'
    · go_wp2_with fail
      go_ret
      exact rdP_mk HB1.out
    · have htn : (tall != (steps : Nat)) = false := by simp [htl']
      have ht0 : 0 ≤ tall := by omega
      clear htl' htl
      go_wp2_with fail
      go_ret
      exact rdP_mk HB1.out
end Go.Proofs.YtnohmedccbogkaaGreatDoor

namespace Go.Proofs.YtnohmedccbogkaaGreatDoor
open Go.RowKit
set_option linter.unusedVariables false
def kidN (i : Nat) (ls : List (ByteArray × Int)) (kd : List Int) : NdK := ⟨(i : Int), false, [], [], kd, ls.tail.map (fun x => x.1)⟩
def d0 : ByteArray × Int := (strOfNums [], 0)
def t0 : ByteArray × Tr := (strOfNums [], .nil)
structure LpI (P : Pg) (B0 g sb N : Nat) (rt : Int) (f steps i : Nat) (vs : Value) (w : World) (ns : List NdK) (nv : Nat → NdV) (na : Option Addr) (seen : List Int) (tall : Int) (nb : Nat) (v : NdV) (ls : List (ByteArray × Int)) (j : Nat) (kd : List Int) (ms : List NdK) (nv1 : Nat → NdV) (na1 : Option Addr) (nc1 : Nat) (seen1 : List Int) (tall1 : Int) (bad1 : Bool) (wr : World) : Prop where
  fr : Fr3 g sb na w wr
  st : TSt B0 g sb N rt wr (ns ++ ms) nv1 na1 nc1 seen1 tall1 bad1
  na : na1 = na ∨ ∃ k, na1 = some ⟨k, 0, none⟩ ∧ w.heap.size ≤ k
  old : ∀ m, m < ns.length → nv1 m = nv m
  new : ∀ m k, ns.length ≤ m → m < (ns ++ ms).length → (nv1 m).da = some ⟨k, 0, none⟩ → w.heap.size ≤ k
  le : (ns ++ ms).length + (steps + 1) ≤ seen1.length
  le2 : seen.length + 1 ≤ seen1.length
  blk : Blk wr 257 nb (ndc v (kidN i ls kd))
  own : ONd w.heap.size wr v (kidN i ls kd)
  vw : Blk wr 249 w.heap.size [vs]
  nan : na1 ≠ some ⟨nb, 0, none⟩
  sep : ∀ m, m < (ns ++ ms).length → ∀ k, v.da = some ⟨k, 0, none⟩ → (nv1 m).da ≠ some ⟨k, 0, none⟩
  len : kd.length = ls.length
  rest : ∀ m, j ≤ m → kd.getD m 0 = (ls.getD m d0).2
  res : (bad1 = false ∧ ∃ ts : List (ByteArray × Tr), ts.length = j ∧ (∀ m, m < j → (ts.getD m t0).1 = (ls.getD m d0).1) ∧ rdK (rdT P f ((steps : Int) + 1)) ls ⟨(i : Int) :: seen, tall⟩ = (rdK (rdT P f ((steps : Int) + 1)) (ls.drop j) ⟨seen1, tall1⟩).map (fun y => (preK ts y.1, y.2)) ∧ ∀ m, m < j → isT (ts.getD m t0).2 = true ∧ Rep (ns ++ ms) (ts.getD m t0).2 true [kd.getD m 0] []) ∨
    (bad1 = true ∧ rdK (rdT P f ((steps : Int) + 1)) ls ⟨(i : Int) :: seen, tall⟩ = none)
theorem LpI.belowL {P : Pg} {B0 g sb N : Nat} {rt : Int} {f steps i : Nat} {vs : Value} {w : World} {ns : List NdK} {nv : Nat → NdV} {na : Option Addr} {seen : List Int} {tall : Int} {nb : Nat} {v : NdV} {ls : List (ByteArray × Int)} {j : Nat} {kd : List Int} {ms : List NdK} {nv1 : Nat → NdV} {na1 : Option Addr} {nc1 : Nat} {seen1 : List Int} {tall1 : Int} {bad1 : Bool} {wr wr' : World}
    (I : LpI P B0 g sb N rt f steps i vs w ns nv na seen tall nb v ls j kd ms nv1 na1 nc1 seen1 tall1 bad1 wr) (hb : Below wr.heap.size wr wr') : LpI P B0 g sb N rt f steps i vs w ns nv na seen tall nb v ls j kd ms nv1 na1 nc1 seen1 tall1 bad1 wr' :=
  ⟨I.fr.trans (Fr3.ofBelow hb) I.na, I.st.belowT hb, I.na, I.old, I.new, I.le, I.le2, I.blk.below hb, I.own.below hb, I.vw.below hb, I.nan, I.sep, I.len, I.rest, I.res⟩
theorem LpI.after {P : Pg} {B0 g sb N : Nat} {rt : Int} {f steps i : Nat} {vs : Value} {w : World} {ns : List NdK} {nv : Nat → NdV} {na : Option Addr} {seen : List Int} {tall : Int} {nb : Nat} {v : NdV} {ls : List (ByteArray × Int)} {j : Nat} {kd : List Int} {ms : List NdK} {nv1 : Nat → NdV} {na1 : Option Addr} {nc1 : Nat} {seen1 : List Int} {tall1 : Int} {bad1 : Bool} {wr w6 : World}
    (I : LpI P B0 g sb N rt f steps i vs w ns nv na seen tall nb v ls j kd ms nv1 na1 nc1 seen1 tall1 bad1 wr) (fr : Fr3 g sb na1 wr w6) :
    Blk w6 257 nb (ndc v (kidN i ls kd)) ∧ ONd w.heap.size w6 v (kidN i ls kd) ∧ Blk w6 249 w.heap.size [vs] := by
  have hgn : nb ≠ g := fun e => by
    have h1 := I.st.blk
    have h2 := I.blk
    unfold Blk at h1 h2
    rw [e, h1] at h2
    cases h2
  have hsn : nb ≠ sb := fun e => by
    obtain ⟨_, c1, h1⟩ := I.st.mks.blk
    have h2 := I.blk
    unfold Blk at h2
    rw [e, h1] at h2
    cases h2
  have kT : ∀ t, t ≠ 207 → t ≠ 4 → t ≠ 257 → KeepT t wr w6 := fun t h1 h2 h3 => fr.keepT I.st h1 h2 h3
  exact ⟨(fr.block nb I.blk.lt hgn hsn I.nan).trans I.blk, I.own.keep (kT _ (by decide) (by decide) (by decide)) (kT _ (by decide) (by decide) (by decide)), I.vw.keepT (kT _ (by decide) (by decide) (by decide))⟩
theorem drop_cons {ls : List (ByteArray × Int)} {j : Nat} (h : j < ls.length) : ls.drop j = ((ls.getD j d0).1, (ls.getD j d0).2) :: ls.drop (j + 1) := by
  rw [List.drop_eq_getElem_cons h]
  congr 1
  simp [List.getD, List.getElem?_eq_getElem h]
theorem LpI.step {P : Pg} {B0 g sb N : Nat} {rt : Int} {f steps i : Nat} {vs : Value} {w : World} {ns : List NdK} {nv : Nat → NdV} {na : Option Addr} {seen : List Int} {tall : Int} {nb : Nat} {v : NdV} {ls : List (ByteArray × Int)} {j : Nat} {kd : List Int} {ms : List NdK} {nv1 : Nat → NdV} {na1 : Option Addr} {nc1 : Nat} {seen1 : List Int} {tall1 : Int} {wr w6 : World}
    (I : LpI P B0 g sb N rt f steps i vs w ns nv na seen tall nb v ls j kd ms nv1 na1 nc1 seen1 tall1 false wr) (hj : j < ls.length) {kb : Nat} (hkb : v.da = some ⟨kb, 0, none⟩) (hnb : w.heap.size ≤ nb)
    {p : Int} {ms2 : List NdK} {nv2 : Nat → NdV} {na2 : Option Addr} {nc2 : Nat} {seen2 : List Int} {tall2 : Int} {bad2 : Bool}
    (Q : RdQ P B0 g sb N rt f (steps + 1) (kd.getD j 0) wr (ns ++ ms) nv1 na1 seen1 tall1 w6 p ms2 nv2 na2 nc2 seen2 tall2 bad2) :
    LpI P B0 g sb N rt f steps i vs w ns nv na seen tall nb v ls (j + 1) (kd.set j p) (ms ++ ms2) nv2 na2 nc2 seen2 tall2 bad2 (w6.setCell ⟨kb, j, none⟩ (.int .i64 p)) := by
  have hlenK : (kidN i ls kd).kids.length = kd.length := rfl
  have ow := I.own.kids
  rw [hkb] at ow
  obtain ⟨hkw, cur, hcur⟩ := ow.blk
  have kI : KeepT 3 wr w6 := Q.fr.keepT I.st (by decide) (by decide) (by decide)
  have kS : KeepT 9 wr w6 := Q.fr.keepT I.st (by decide) (by decide) (by decide)
  have kV : KeepT 249 wr w6 := Q.fr.keepT I.st (by decide) (by decide) (by decide)
  have hkl : kb < wr.heap.size := (Array.getElem?_eq_some_iff.1 hcur).1
  have hcur6 := kI.block _ _ _ hcur
  have hnl := I.blk.lt
  have hgn : nb ≠ g := fun e => by
    have h1 := I.st.blk
    have h2 := I.blk
    unfold Blk at h1 h2
    rw [e, h1] at h2
    cases h2
  have hsn : nb ≠ sb := fun e => by
    obtain ⟨_, c1, h1⟩ := I.st.mks.blk
    have h2 := I.blk
    unfold Blk at h2
    rw [e, h1] at h2
    cases h2
  have hnk : nb ≠ kb := fun e => by
    have h2 := I.blk
    unfold Blk at h2
    rw [e, hcur] at h2
    cases h2
  have n6 : Blk w6 257 nb (ndc v (kidN i ls kd)) := (Q.fr.block nb hnl hgn hsn I.nan).trans I.blk
  have oK := onlyB_setCell w6 kb j (.int .i64 p)
  have n7 := n6.only oK hnk
  have kT : ∀ t, 3 ≠ t → KeepT t w6 (w6.setCell ⟨kb, j, none⟩ (.int .i64 p)) := fun t ht => keepT_onlyC oK hcur6 ht
  have eN : ndc v (kidN i ls kd) = ndc v (kidN i ls (kd.set j p)) := by simp [ndc, kidN]
  have sep2 : ∀ m, m < (ns ++ (ms ++ ms2)).length → ∀ k, v.da = some ⟨k, 0, none⟩ → (nv2 m).da ≠ some ⟨k, 0, none⟩ := fun m hm k hk he => by
    by_cases h : m < (ns ++ ms).length
    · rw [Q.old m h] at he
      exact I.sep m h k hk he
    · have := Q.new m k (by omega) (by rw [List.append_assoc]; exact hm) he
      rw [hkb] at hk
      cases hk
      omega
  have o6 := I.own.keep kS kI
  have okd : Own1 3 w.heap.size (w6.setCell ⟨kb, j, none⟩ (.int .i64 p)) v.da (kd.set j p).length v.dc (on (kd.set j p)) := by
    have h1 : Own1 3 w.heap.size w6 v.da kd.length v.dc (on kd) := o6.kids
    rw [hkb] at h1 ⊢
    have h2 := h1.set j (.int .i64 p)
    rw [on_set] at h2
    rw [List.length_set]
    exact h2
  refine ⟨(I.fr.trans Q.fr I.na).fresh oK hkw, ?_, ?_, fun m hm => ?_, fun m k h1 h2 h3 => ?_, ?_, Nat.le_trans I.le2 Q.le2, ?_, ⟨o6.keys.keep (kT _ (by decide)), o6.vals.keep (kT _ (by decide)), okd, o6.signs.keep (kT _ (by decide))⟩, (I.vw.keepT kV).keepT (kT _ (by decide)), ?_, sep2, by rw [List.length_set]; exact I.len, fun m hm => ?_, ?_⟩
  · have := Q.st
    rw [List.append_assoc] at this
    exact this.other (xs := []) oK ⟨_, hcur6⟩ (by decide) (by decide) (Or.inl (by decide)) (by decide) (Or.inr (fun m hm => sep2 m hm kb hkb))
  · rcases Q.na with h | ⟨k, h1, h2⟩
    · rw [h]; exact I.na
    · exact Or.inr ⟨k, h1, Nat.le_trans I.fr.size h2⟩
  · rw [Q.old m (by rw [List.length_append]; omega)]
    exact I.old m hm
  · by_cases h : m < (ns ++ ms).length
    · rw [Q.old m h] at h3
      exact I.new m k h1 h h3
    · have := Q.new m k (by omega) (by rw [List.append_assoc]; exact h2) h3
      exact Nat.le_trans I.fr.size this
  · have := Q.le
    rw [List.append_assoc] at this
    exact this
  · rw [← eN]; exact n7
  · rcases Q.na with h | ⟨k, h1, h2⟩
    · rw [h]; exact I.nan
    · rw [h1]; intro e; cases e; omega
  · rw [← I.rest m (by omega)]
    simp [List.getD, List.getElem?_set_ne (show j ≠ m by omega)]
  · rcases I.res with ⟨_, ts, h1, h2, h3, h4⟩ | ⟨h, _⟩
    · have hid := I.rest j (Nat.le_refl _)
      rw [drop_cons hj] at h3
      rcases Q.res with ⟨hb, T, q1, q2, q3⟩ | ⟨hb, q1⟩
      · refine Or.inl ⟨hb, ts ++ [((ls.getD j d0).1, T)], by simp [h1], fun m hm => ?_, ?_, fun m hm => ?_⟩
        · by_cases e : m = j
          · subst e
            simp [List.getD, ← h1]
          · have := h2 m (by omega)
            rw [← this]
            simp [List.getD, List.getElem?_append_left (show m < ts.length by omega)]
        · rw [h3]
          rw [hid] at q1
          exact rdK_step q1
        · by_cases e : m = j
          · subst e
            have e1 : (ts ++ [((ls.getD m d0).1, T)]).getD m t0 = ((ls.getD m d0).1, T) := by simp [List.getD, ← h1]
            have e2 : (kd.set m p).getD m 0 = p := by simp [List.getD, I.len, hj]
            rw [e1, e2, ← List.append_assoc]
            exact ⟨q2, q3⟩
          · have e1 : (ts ++ [((ls.getD j d0).1, T)]).getD m t0 = ts.getD m t0 := by simp [List.getD, List.getElem?_append_left (show m < ts.length by omega)]
            have e2 : (kd.set j p).getD m 0 = kd.getD m 0 := by simp [List.getD, List.getElem?_set_ne (show j ≠ m by omega)]
            rw [e1, e2, ← List.append_assoc]
            exact ⟨(h4 m (by omega)).1, (h4 m (by omega)).2.app ms2⟩
      · refine Or.inr ⟨hb, ?_⟩
        rw [h3]
        rw [hid] at q1
        have q2 : rdT P f ((steps : Int) + 1) ⟨seen1, tall1⟩ (ls.getD j d0).2 = none := q1
        rw [rdK_none q2]
        rfl
    · cases h
theorem lp_fin {P : Pg} {B0 g sb N : Nat} {rt : Int} {f steps i : Nat} {vs : Value} {w : World} {ns : List NdK} {nv : Nat → NdV} {na : Option Addr} {seen : List Int} {tall : Int} {nb : Nat} {v : NdV} {ls : List (ByteArray × Int)} {j : Nat} {kd : List Int} {ms : List NdK} {nv1 : Nat → NdV} {na1 : Option Addr} {nc1 : Nat} {seen1 : List Int} {tall1 : Int} {bad1 : Bool} {wr W9 : World}
    (I : LpI P B0 g sb N rt f steps i vs w ns nv na seen tall nb v ls j kd ms nv1 na1 nc1 seen1 tall1 bad1 wr) (hx : bad1 = true ∨ j = ls.length) {bd : List Int} (hin : inP bd = some ls)
    (hrt : rdT P (f + 1) steps ⟨seen, tall⟩ (i : Int) = ((inP bd).bind fun ls => (rdK (rdT P f ((steps : Nat) + 1)) ls ⟨(i : Int) :: seen, tall⟩).map fun y => (.node (i : Int) y.1, y.2))) {g8 c8 : Nat}
    (st8 : TSt B0 g sb N rt W9 ((ns ++ ms) ++ [kidN i ls kd]) (updN nv1 (ns ++ ms).length v) (some ⟨g8, 0, none⟩) c8 seen1 tall1 bad1) (f8 : Fr3 g sb na w W9) (hat : na1 = some ⟨g8, 0, none⟩ ∨ w.heap.size ≤ g8) :
    RdQ P B0 g sb N rt (f + 1) steps (i : Int) w ns nv na seen tall W9 ((ns ++ ms).length : Nat) (ms ++ [kidN i ls kd]) (updN nv1 (ns ++ ms).length v) (some ⟨g8, 0, none⟩) c8 seen1 tall1 bad1 := by
  have hlA : (ns ++ ms).length = ns.length + ms.length := List.length_append
  refine ⟨f8, by rw [← List.append_assoc]; exact st8, ?_, fun m hm => ?_, fun m k h1 h2 h3 => ?_, ?_, Nat.le_trans (Nat.le_succ _) I.le2, ?_⟩
  · rcases hat with h | h
    · rw [← h]; exact I.na
    · exact Or.inr ⟨g8, rfl, h⟩
  · rw [updN_lt _ _ (by omega)]
    exact I.old m hm
  · rw [← List.append_assoc, List.length_append] at h2
    have h2' : m < (ns ++ ms).length + 1 := h2
    by_cases e : m = (ns ++ ms).length
    · subst e
      rw [updN_same] at h3
      have h5 := I.own.kids
      rw [h3] at h5
      exact h5.blk.1
    · rw [updN_lt _ _ (by omega)] at h3
      exact I.new m k h1 (by omega) h3
  · rw [← List.append_assoc, List.length_append]
    have := I.le
    show (ns ++ ms).length + 1 + steps ≤ _
    omega
  · rcases I.res with ⟨hb, ts, h1, h2, h3, h4⟩ | ⟨hb, h1⟩
    · have hj : j = ls.length := by
        rcases hx with h | h
        · rw [hb] at h; cases h
        · exact h
      subst hj
      rw [List.drop_length] at h3
      refine Or.inl ⟨hb, .node (i : Int) (preK ts .nil), ?_, rfl, ?_⟩
      · rw [hrt, hin]
        simp only [Option.bind_some]
        rw [h3]
        rfl
      · rw [← List.append_assoc, Rep]
        refine ⟨(ns ++ ms).length, kd, ls.tail.map (fun x => x.1), rfl, by simp [kidN], ?_⟩
        have hr := rep_pre (ns := (ns ++ ms) ++ [kidN i ls kd]) ts true kd (by rw [I.len, h1]) (fun m hm => (h4 m (by omega)).2.app _)
        have e : ts.tail.map (·.1) = ls.tail.map (fun x => x.1) := by
          apply List.ext_getElem?
          intro m
          simp only [List.getElem?_map, List.getElem?_tail]
          by_cases hm : m + 1 < ts.length
          · have := h2 (m + 1) (by omega)
            simp only [List.getD, List.getElem?_eq_getElem hm, List.getElem?_eq_getElem (show m + 1 < ls.length by omega), Option.getD_some] at this
            rw [List.getElem?_eq_getElem hm, List.getElem?_eq_getElem (show m + 1 < ls.length by omega)]
            simp [this]
          · rw [List.getElem?_eq_none (by omega), List.getElem?_eq_none (by omega)]
            rfl
        rw [if_pos rfl, e] at hr
        exact hr
    · refine Or.inr ⟨hb, ?_⟩
      rw [hrt, hin]
      simp only [Option.bind_some]
      rw [h1]
      rfl
theorem lnP_len : ∀ (n : Nat) (l : List Int) (r : List (ByteArray × Int)), l.length ≤ n → lnP l = some r → r.length ≤ l.length
  | 0, l, r, h, e => by rw [lnP_nil (by omega)] at e; cases e; simp
  | n + 1, l, r, h, e => by
    by_cases h0 : l.length = 0
    · rw [lnP_nil h0] at e; cases e; simp
    · cases h1 : lnOne l with
      | false => rw [lnP_no h0 h1] at e; cases e
      | true =>
        rw [lnP_yes h1] at e
        obtain ⟨r2, e2, rfl⟩ := Option.map_eq_some_iff.1 e
        have hb := (lnOne_iff.1 h1).2.2
        have := lnP_len n (l.drop (5 + lfK l)) r2 (by rw [List.length_drop]; omega) e2
        rw [List.length_drop] at this
        simp
        omega
theorem inP_len {l : List Int} {ls : List (ByteArray × Int)} (h : inP l = some ls) : ls.length ≤ l.length := by
  unfold inP at h
  by_cases h4 : 4 ≤ l.length
  · rw [if_pos h4] at h
    obtain ⟨r, e2, rfl⟩ := Option.map_eq_some_iff.1 h
    have := lnP_len _ _ r (Nat.le_refl _) e2
    rw [List.length_drop] at this
    simp
    omega
  · rw [if_neg h4] at h; cases h
def LpE (P : Pg) (B0 g sb N : Nat) (rt : Int) (f steps i : Nat) (vs : Value) (w : World) (ns : List NdK) (nv : Nat → NdV) (na : Option Addr) (seen : List Int) (tall : Int) (nb : Nat) (v : NdV) (ls : List (ByteArray × Int)) (x : Value) (wr : World) : Prop :=
  ∃ j kd ms nv1 na1 nc1 seen1 tall1 bad1, x = .int .i64 ((j : Nat) : Int) ∧ j ≤ ls.length ∧ LpI P B0 g sb N rt f steps i vs w ns nv na seen tall nb v ls j kd ms nv1 na1 nc1 seen1 tall1 bad1 wr
end Go.Proofs.YtnohmedccbogkaaGreatDoor

