import Derived.Test.YtnohmedccbogkaaGreatDoorCs3
import Derived.Test.YtnohmedccbogkaaGreatDoorCs5
namespace Go.Proofs.YtnohmedccbogkaaGreatDoor
open Go.RowKit
set_option linter.unusedVariables false
def orE : List (ByteArray × ByteArray) → ByteArray × ByteArray → Option (ByteArray × ByteArray)
  | [], x => some x
  | e :: es, x => if sl x.1 e.1 = true ∧ sle x.2 e.1 = true then orE es (e.1, x.2) else none
def orT : Tr → Bool → ByteArray × ByteArray → Option (ByteArray × ByteArray)
  | .leaf _ es, _, x => orE es x
  | .node _ ks, _, x => orT ks true x
  | .nil, _, x => some x
  | .cons s t ks, b, x => if b = true ∨ sl x.1 s = true then (orT t true (x.1, if b = true then x.2 else s)).bind (orT ks false) else none
def inB (low high k : ByteArray) : Bool := sle low k && (high.size == 0 || sl k high)
def ascE : List (ByteArray × ByteArray) → Bool
  | [] => true
  | [_] => true
  | a :: b :: es => sl a.1 b.1 && ascE (b :: es)
def maxB (low s : ByteArray) : ByteArray := if sl s low then low else s
def minB (high s : ByteArray) : ByteArray := if high.size == 0 || sl s high then s else high
def hdS : Tr → Option ByteArray
  | .cons s _ _ => some s
  | _ => none
def minO (high : ByteArray) : Option ByteArray → ByteArray
  | some s => minB high s
  | none => high
def okT : Tr → Bool → ByteArray → ByteArray → Bool
  | .leaf _ es, _, low, high => es.all (fun e => inB low high e.1) && ascE es
  | .node _ ks, _, low, high => okT ks true low high
  | .nil, _, _, _ => true
  | .cons s t ks, b, low, high => okT t true (if b = true then low else maxB low s) (minO high (hdS ks)) && okT ks false low high
def keysT : Tr → List ByteArray
  | .leaf _ es => es.map (·.1)
  | .node _ ks => keysT ks
  | .nil => []
  | .cons _ t ks => keysT t ++ keysT ks
def hdOk (l : ByteArray) (ks : Tr) : Prop := ∀ s, hdS ks = some s → sl l s = true
def inn : Tr → Bool → Prop
  | .leaf _ es, _ => (es.map (·.1)).Pairwise (fun a b => sl a b = true)
  | .node _ ks, _ => inn ks true
  | .nil, _ => True
  | .cons s t ks, b => inn t true ∧ (b = false → ∀ k ∈ keysT t, sle s k = true) ∧ (∀ k ∈ keysT t, hdOk k ks) ∧ inn ks false
def isT : Tr → Bool
  | .leaf _ _ => true
  | .node _ _ => true
  | _ => false
def full : Tr → Bool → Prop
  | .leaf _ es, _ => es ≠ []
  | .node _ ks, _ => (∃ s t r, ks = .cons s t r) ∧ full ks true
  | .nil, _ => True
  | .cons s t ks, b => (b = false → 1 ≤ s.size) ∧ isT t = true ∧ isT ks = false ∧ full t true ∧ full ks false
theorem pw_cons2 {es : List (ByteArray × ByteArray)} {a b : ByteArray × ByteArray} (h : ((a :: b :: es).map (·.1)).Pairwise (fun x y => sl x y = true)) : sl a.1 b.1 = true := by
  simp only [List.map_cons, List.pairwise_cons] at h
  exact h.1 b.1 (by simp)
theorem ascE_iff : ∀ es : List (ByteArray × ByteArray), ascE es = true ↔ (es.map (·.1)).Pairwise (fun a b => sl a b = true)
  | [] => by simp [ascE]
  | [a] => by simp [ascE]
  | a :: b :: es => by
    have ih := ascE_iff (b :: es)
    constructor
    · intro h
      simp only [ascE, Bool.and_eq_true] at h
      have h2 := ih.1 h.2
      rw [List.map_cons, List.pairwise_cons]
      refine ⟨fun k hk => ?_, h2⟩
      rw [List.map_cons] at hk h2
      rcases List.mem_cons.1 hk with rfl | hk
      · exact h.1
      · exact sl_trans h.1 (List.rel_of_pairwise_cons h2 hk)
    · intro h
      simp only [ascE, Bool.and_eq_true]
      exact ⟨pw_cons2 h, ih.2 (by rw [List.map_cons, List.pairwise_cons] at h; exact h.2)⟩
theorem inB_iff {low high k : ByteArray} : inB low high k = true ↔ sle low k = true ∧ (high.size = 0 ∨ sl k high = true) := by
  simp [inB]
theorem inB_max {low s high k : ByteArray} : inB (maxB low s) high k = true ↔ inB low high k = true ∧ sle s k = true := by
  rw [inB_iff, inB_iff]
  unfold maxB
  split
  · rename_i h
    exact ⟨fun x => ⟨x, sle_trans (sl_sle h) x.1⟩, fun x => x.1⟩
  · rename_i h
    have hl : sle low s = true := by unfold sle; simpa using h
    exact ⟨fun x => ⟨⟨sle_trans hl x.1, x.2⟩, x.1⟩, fun x => ⟨x.2, x.1.2⟩⟩
theorem inB_min {low s high k : ByteArray} (hs : 1 ≤ s.size) : inB low (minB high s) k = true ↔ inB low high k = true ∧ sl k s = true := by
  rw [inB_iff, inB_iff]
  unfold minB
  split
  · rename_i h
    simp only [Bool.or_eq_true, beq_iff_eq] at h
    constructor
    · rintro ⟨h1, h2⟩
      rcases h2 with h2 | h2
      · omega
      · exact ⟨⟨h1, by rcases h with h | h; exact Or.inl h; exact Or.inr (sl_trans h2 h)⟩, h2⟩
    · rintro ⟨⟨h1, _⟩, h2⟩
      exact ⟨h1, Or.inr h2⟩
  · rename_i h
    simp only [Bool.or_eq_true, beq_iff_eq, not_or] at h
    have hl : sle high s = true := by unfold sle; simpa using h.2
    constructor
    · rintro ⟨h1, h2⟩
      rcases h2 with h2 | h2
      · exact absurd h2 h.1
      · exact ⟨⟨h1, Or.inr h2⟩, sl_sle_trans h2 hl⟩
    · rintro ⟨⟨h1, h2⟩, _⟩
      exact ⟨h1, h2⟩
theorem inB_minO {low high k : ByteArray} {ks : Tr} (hs : ∀ s, hdS ks = some s → 1 ≤ s.size) : inB low (minO high (hdS ks)) k = true ↔ inB low high k = true ∧ hdOk k ks := by
  unfold hdOk
  cases h : hdS ks with
  | none => simp [minO]
  | some s => simp only [minO, inB_min (hs s h), Option.some.injEq]; exact ⟨fun x => ⟨x.1, fun _ e => e ▸ x.2⟩, fun x => ⟨x.1, x.2 s rfl⟩⟩
theorem full_hd {ks : Tr} (h : full ks false) : ∀ s, hdS ks = some s → 1 ≤ s.size := fun s e => by
  cases ks with
  | cons s0 t r => rw [hdS] at e; cases e; rw [full] at h; exact h.1 rfl
  | _ => simp [hdS] at e
theorem okT_iff : ∀ (t : Tr) (b : Bool) (low high : ByteArray), full t b → (okT t b low high = true ↔ inn t b ∧ ∀ k ∈ keysT t, inB low high k = true)
  | .leaf id es, _, low, high, _ => by
    simp only [okT, Bool.and_eq_true, inn, keysT, ascE_iff, List.all_eq_true, List.mem_map]
    constructor
    · rintro ⟨h1, h2⟩
      exact ⟨h2, by rintro k ⟨e, he, rfl⟩; exact h1 e he⟩
    · rintro ⟨h1, h2⟩
      exact ⟨fun e he => h2 _ ⟨e, he, rfl⟩, h1⟩
  | .node id ks, _, low, high, h => by
    rw [full] at h
    rw [okT, inn, keysT]
    exact okT_iff ks true low high h.2
  | .nil, _, _, _, _ => by simp [okT, inn, keysT]
  | .cons s t ks, b, low, high, h => by
    rw [full] at h
    rw [okT, inn, keysT, Bool.and_eq_true, okT_iff t true _ _ h.2.2.2.1, okT_iff ks false low high h.2.2.2.2]
    simp only [inB_minO (full_hd h.2.2.2.2), List.mem_append]
    cases b with
    | true =>
      simp only [if_true]
      constructor
      · rintro ⟨⟨a1, a2⟩, a3, a4⟩
        exact ⟨⟨a1, fun x => absurd x (by decide), fun k hk => (a2 k hk).2, a3⟩, fun k hk => by rcases hk with hk | hk; exact (a2 k hk).1; exact a4 k hk⟩
      · rintro ⟨⟨a1, _, a3, a4⟩, a5⟩
        exact ⟨⟨a1, fun k hk => ⟨a5 k (Or.inl hk), a3 k hk⟩⟩, a4, fun k hk => a5 k (Or.inr hk)⟩
    | false =>
      simp only [Bool.false_eq_true, if_false, inB_max, true_implies]
      constructor
      · rintro ⟨⟨a1, a2⟩, a3, a4⟩
        exact ⟨⟨a1, fun k hk => (a2 k hk).1.2, fun k hk => (a2 k hk).2, a3⟩, fun k hk => by rcases hk with hk | hk; exact (a2 k hk).1.1; exact a4 k hk⟩
      · rintro ⟨⟨a1, a2, a3, a4⟩, a5⟩
        exact ⟨⟨a1, fun k hk => ⟨⟨a5 k (Or.inl hk), a2 k hk⟩, a3 k hk⟩⟩, a4, fun k hk => a5 k (Or.inr hk)⟩
theorem keysT_ne : ∀ (t : Tr) (b : Bool), full t b → isT t = true → keysT t ≠ []
  | .leaf id es, _, h, _ => by simpa [keysT, full] using h
  | .node id (.cons s t r), _, h, _ => by
    rw [full] at h
    have h2 := h.2
    rw [full] at h2
    simp only [keysT]
    intro e
    exact keysT_ne t true h2.2.2.2.1 h2.2.1 (List.append_eq_nil_iff.1 e).1
  | .node id (.leaf _ _), _, h, _ => by rw [full] at h; obtain ⟨⟨_, _, _, e⟩, _⟩ := h; cases e
  | .node id (.node _ _), _, h, _ => by rw [full] at h; obtain ⟨⟨_, _, _, e⟩, _⟩ := h; cases e
  | .node id .nil, _, h, _ => by rw [full] at h; obtain ⟨⟨_, _, _, e⟩, _⟩ := h; cases e
  | .nil, _, _, h => by simp [isT] at h
  | .cons _ _ _, _, _, h => by simp [isT] at h
def lastK (l : ByteArray) : List ByteArray → ByteArray
  | [] => l
  | k :: ks => lastK k ks
theorem lastK_mem {l : ByteArray} : ∀ {ks : List ByteArray}, ks ≠ [] → lastK l ks ∈ ks
  | [], h => absurd rfl h
  | [k], _ => by simp [lastK]
  | k :: k2 :: ks, _ => by
    have := lastK_mem (l := k) (ks := k2 :: ks) (by simp)
    rw [lastK]
    exact List.mem_cons_of_mem _ this
theorem lastK_app (l : ByteArray) : ∀ (a b : List ByteArray), lastK l (a ++ b) = lastK (lastK l a) b
  | [], b => rfl
  | k :: a, b => by simp only [List.cons_append, lastK]; exact lastK_app k a b
theorem sle_refl (a : ByteArray) : sle a a = true := by unfold sle; rw [sl_irr]; rfl
theorem lastK_max {l : ByteArray} : ∀ {ks : List ByteArray}, ks.Pairwise (fun a b => sl a b = true) → ∀ k ∈ ks, sle k (lastK l ks) = true
  | [], _, k, hk => by simp at hk
  | [a], _, k, hk => by simp at hk; subst hk; exact sle_refl _
  | a :: b :: ks, h, k, hk => by
    rw [List.pairwise_cons] at h
    rw [lastK]
    rcases List.mem_cons.1 hk with rfl | hk
    · exact sl_sle (h.1 _ (lastK_mem (by simp)))
    · exact lastK_max (l := a) h.2 k hk
theorem orE_iff : ∀ (es : List (ByteArray × ByteArray)) (l s : ByteArray) (x : ByteArray × ByteArray), orE es (l, s) = some x ↔ ((es.map (·.1)).Pairwise (fun a b => sl a b = true) ∧ ∀ k ∈ es.map (·.1), sl l k = true ∧ sle s k = true) ∧ x = (lastK l (es.map (·.1)), s)
  | [], l, s, x => by
    rw [orE]
    constructor
    · intro h
      cases h
      exact ⟨⟨by simp, by simp⟩, rfl⟩
    · rintro ⟨_, rfl⟩
      rfl
  | e :: es, l, s, x => by
    rw [orE]
    simp only [List.map_cons, lastK]
    by_cases h : sl l e.1 = true ∧ sle s e.1 = true
    · rw [if_pos h, orE_iff es e.1 s x, List.pairwise_cons]
      constructor
      · rintro ⟨⟨h1, h2⟩, h3⟩
        refine ⟨⟨⟨fun k hk => (h2 k hk).1, h1⟩, fun k hk => ?_⟩, h3⟩
        rcases List.mem_cons.1 hk with rfl | hk
        · exact h
        · exact ⟨sl_trans h.1 (h2 k hk).1, (h2 k hk).2⟩
      · rintro ⟨⟨⟨h1, h2⟩, h3⟩, h4⟩
        exact ⟨⟨h2, fun k hk => ⟨h1 k hk, (h3 k (List.mem_cons_of_mem _ hk)).2⟩⟩, h4⟩
    · rw [if_neg h]
      constructor
      · intro x; cases x
      · rintro ⟨⟨_, h3⟩, _⟩
        exact absurd (h3 e.1 (by simp)) h
theorem inn_head : ∀ (ks : Tr) (s0 : ByteArray), full ks false → inn ks false → hdS ks = some s0 → ∀ k ∈ keysT ks, sle s0 k = true
  | .cons s t ks, s0, hf, h, e, k, hk => by
    rw [hdS] at e
    cases e
    rw [inn] at h
    rw [full] at hf
    rw [keysT, List.mem_append] at hk
    rcases hk with hk | hk
    · exact h.2.1 rfl k hk
    · obtain ⟨k0, hk0⟩ := List.exists_mem_of_ne_nil _ (keysT_ne t true hf.2.2.2.1 hf.2.1)
      cases ks with
      | nil => simp [keysT] at hk
      | leaf _ _ => have := hf.2.2.1; simp [isT] at this
      | node _ _ => have := hf.2.2.1; simp [isT] at this
      | cons s2 t2 r =>
        have h2 := inn_head (.cons s2 t2 r) s2 hf.2.2.2.2 h.2.2.2 rfl k hk
        exact sle_trans (h.2.1 rfl k0 hk0) (sle_trans (sl_sle (h.2.2.1 k0 hk0 s2 rfl)) h2)
  | .nil, _, _, _, e, _, _ => by simp [hdS] at e
  | .leaf _ _, _, _, _, e, _, _ => by simp [hdS] at e
  | .node _ _, _, _, _, e, _, _ => by simp [hdS] at e
theorem srtT : ∀ (t : Tr) (b : Bool), full t b → inn t b → (keysT t).Pairwise (fun a b => sl a b = true)
  | .leaf id es, _, _, h => by simpa [inn, keysT] using h
  | .node id ks, _, hf, h => by
    rw [full] at hf
    rw [inn] at h
    rw [keysT]
    exact srtT ks true hf.2 h
  | .nil, _, _, _ => by simp [keysT]
  | .cons s t ks, b, hf, h => by
    rw [inn] at h
    rw [full] at hf
    rw [keysT, List.pairwise_append]
    refine ⟨srtT t true hf.2.2.2.1 h.1, srtT ks false hf.2.2.2.2 h.2.2.2, fun a ha c hc => ?_⟩
    cases ks with
    | nil => simp [keysT] at hc
    | leaf _ _ => have := hf.2.2.1; simp [isT] at this
    | node _ _ => have := hf.2.2.1; simp [isT] at this
    | cons s2 t2 r => exact sl_sle_trans (h.2.2.1 a ha s2 rfl) (inn_head (.cons s2 t2 r) s2 hf.2.2.2.2 h.2.2.2 rfl c hc)
theorem orT_fwd : ∀ (t : Tr) (b : Bool) (l s : ByteArray) (x : ByteArray × ByteArray), full t b → orT t b (l, s) = some x →
    inn t b ∧ (∀ k ∈ keysT t, sl l k = true) ∧ ((isT t = true ∨ b = true) → ∀ k ∈ keysT t, sle s k = true) ∧ (b = false → hdOk l t) ∧ x.1 = lastK l (keysT t) ∧ ((isT t = true ∨ sle s l = true) → sle x.2 x.1 = true)
  | .leaf id es, b, l, s, x, hf, h => by
    rw [orT, orE_iff] at h
    obtain ⟨⟨h1, h2⟩, rfl⟩ := h
    refine ⟨by simpa [inn] using h1, fun k hk => (h2 k (by simpa [keysT] using hk)).1, fun _ k hk => (h2 k (by simpa [keysT] using hk)).2, fun _ s e => by simp [hdS] at e, by simp [keysT], fun _ => ?_⟩
    have hm := lastK_mem (l := l) (ks := es.map (·.1)) (by simpa [full] using hf)
    exact (h2 _ hm).2
  | .node id (.cons s0 t ks), b, l, s, x, hf, h => by
    rw [full] at hf
    rw [orT] at h
    have ih := orT_fwd (.cons s0 t ks) true l s x hf.2 h
    have hne : keysT (.cons s0 t ks) ≠ [] := keysT_ne (.node id (.cons s0 t ks)) b (by rw [full]; exact hf) rfl
    have hm := lastK_mem (l := l) hne
    rw [inn, keysT]
    refine ⟨ih.1, ih.2.1, fun _ => ih.2.2.1 (Or.inr rfl), fun _ s e => by simp [hdS] at e, ih.2.2.2.2.1, fun _ => ?_⟩
    have hf2 := hf.2
    rw [full] at hf2
    rw [orT, if_pos (Or.inl rfl)] at h
    obtain ⟨x1, h1, h2⟩ := Option.bind_eq_some_iff.1 h
    have i1 := orT_fwd t true l _ x1 hf2.2.2.2.1 h1
    have i2 := orT_fwd ks false x1.1 x1.2 x hf2.2.2.2.2 h2
    exact i2.2.2.2.2.2 (Or.inr (i1.2.2.2.2.2 (Or.inl hf2.2.1)))
  | .node id (.leaf _ _), _, _, _, _, h, _ => by rw [full] at h; obtain ⟨⟨_, _, _, e⟩, _⟩ := h; cases e
  | .node id (.node _ _), _, _, _, _, h, _ => by rw [full] at h; obtain ⟨⟨_, _, _, e⟩, _⟩ := h; cases e
  | .node id .nil, _, _, _, _, h, _ => by rw [full] at h; obtain ⟨⟨_, _, _, e⟩, _⟩ := h; cases e
  | .nil, b, l, s, x, _, h => by
    rw [orT] at h
    cases h
    exact ⟨by simp [inn], by simp [keysT], by simp [keysT], fun _ s e => by simp [hdS] at e, by simp [keysT, lastK], fun h => by rcases h with h | h; simp [isT] at h; exact h⟩
  | .cons s0 t ks, b, l, s, x, hf, h => by
    rw [orT] at h
    rw [full] at hf
    by_cases hl : b = true ∨ sl l s0 = true
    · rw [if_pos hl] at h
      obtain ⟨x1, h1, h2⟩ := Option.bind_eq_some_iff.1 h
      obtain ⟨a1, a2, a3, _, a4, a5⟩ := orT_fwd t true l _ x1 hf.2.2.2.1 h1
      obtain ⟨b1, b2, _, b3, b4, b5⟩ := orT_fwd ks false x1.1 x1.2 x hf.2.2.2.2 h2
      have hne := keysT_ne t true hf.2.2.2.1 hf.2.1
      have hm : x1.1 ∈ keysT t := by rw [a4]; exact lastK_mem hne
      have hmax : ∀ k ∈ keysT t, sle k x1.1 = true := by rw [a4]; exact lastK_max (srtT t true hf.2.2.2.1 a1)
      have a3' := a3 (Or.inl hf.2.1)
      rw [inn, keysT]
      refine ⟨⟨a1, fun hb k hk => ?_, fun k hk s2 e => sle_sl_trans (hmax k hk) (b3 rfl s2 e), b1⟩, fun k hk => ?_, fun hb k hk => ?_, fun hb s2 e => ?_, by rw [lastK_app, ← a4]; exact b4, fun _ => b5 (Or.inr (a5 (Or.inl hf.2.1)))⟩
      · have := a3' k hk
        rw [if_neg (by rw [hb]; decide)] at this
        exact this
      · rw [List.mem_append] at hk
        rcases hk with hk | hk
        · exact a2 k hk
        · exact sl_trans (a2 _ hm) (b2 k hk)
      · have hbt : b = true := by rcases hb with hb | hb; simp [isT] at hb; exact hb
        rw [if_pos hbt] at a3'
        rw [List.mem_append] at hk
        rcases hk with hk | hk
        · exact a3' k hk
        · exact sle_trans (a3' _ hm) (sl_sle (b2 k hk))
      · rw [hdS] at e
        cases e
        rcases hl with hl | hl
        · rw [hb] at hl; exact absurd hl (by decide)
        · exact hl
    · rw [if_neg hl] at h
      cases h
theorem orT_bwd : ∀ (t : Tr) (b : Bool) (l s : ByteArray), full t b → inn t b → (∀ k ∈ keysT t, sl l k = true) → ((isT t = true ∨ b = true) → ∀ k ∈ keysT t, sle s k = true) → (b = false → hdOk l t) → ∃ x, orT t b (l, s) = some x
  | .leaf id es, b, l, s, hf, h1, h2, h3, _ => ⟨_, by rw [orT, orE_iff]; exact ⟨⟨by simpa [inn] using h1, fun k hk => ⟨h2 k (by simpa [keysT] using hk), h3 (Or.inl rfl) k (by simpa [keysT] using hk)⟩⟩, rfl⟩⟩
  | .node id ks, b, l, s, hf, h1, h2, h3, _ => by
    rw [full] at hf
    rw [inn] at h1
    rw [keysT] at h2 h3
    rw [orT]
    exact orT_bwd ks true l s hf.2 h1 h2 (fun _ => h3 (Or.inl rfl)) (fun h => absurd h (by decide))
  | .nil, b, l, s, _, _, _, _, _ => ⟨_, by rw [orT]⟩
  | .cons s0 t ks, b, l, s, hf, h1, h2, h3, h4 => by
    have hsrt := srtT _ b hf h1
    rw [full] at hf
    rw [inn] at h1
    rw [keysT] at h2 h3
    rw [keysT, List.pairwise_append] at hsrt
    obtain ⟨x1, e1⟩ := orT_bwd t true l (if b = true then s else s0) hf.2.2.2.1 h1.1 (fun k hk => h2 k (List.mem_append_left _ hk)) (fun _ k hk => by
      by_cases hb : b = true
      · rw [if_pos hb]; exact h3 (Or.inr hb) k (List.mem_append_left _ hk)
      · rw [if_neg hb]; exact h1.2.1 (by simpa using hb) k hk) (fun h => absurd h (by decide))
    have a4 := (orT_fwd t true l _ x1 hf.2.2.2.1 e1).2.2.2.2.1
    have hm : x1.1 ∈ keysT t := by rw [a4]; exact lastK_mem (keysT_ne t true hf.2.2.2.1 hf.2.1)
    obtain ⟨x, e2⟩ := orT_bwd ks false x1.1 x1.2 hf.2.2.2.2 h1.2.2.2 (fun k hk => hsrt.2.2 _ hm k hk) (fun h => by
      rcases h with h | h
      · rw [hf.2.2.1] at h; exact absurd h (by decide)
      · exact absurd h (by decide)) (fun _ => h1.2.2.1 _ hm)
    refine ⟨x, ?_⟩
    rw [orT, if_pos, e1]
    · exact e2
    · by_cases hb : b = true
      · exact Or.inl hb
      · exact Or.inr (h4 (by simpa using hb) s0 rfl)
theorem sl_nil {k : ByteArray} (h : 1 ≤ k.size) : sl (strOfNums []) k = true := by
  have e : (strOfNums []).toList = [] := by rw [ByteArray.toList_eq]; rfl
  have hk : k.toList.length = k.size := by rw [ByteArray.toList_eq]; rfl
  unfold sl
  rw [e]
  cases hx : k.toList with
  | nil => rw [hx] at hk; simp at hk; omega
  | cons a x => rfl
theorem sle_nil (k : ByteArray) : sle (strOfNums []) k = true := by
  have e : (strOfNums []).toList = [] := by rw [ByteArray.toList_eq]; rfl
  unfold sle sl
  rw [e]
  cases k.toList <;> rfl
theorem order_iff {t : Tr} (hf : full t true) (hk : ∀ k ∈ keysT t, 1 ≤ k.size) : okT t true (strOfNums []) (strOfNums []) = (orT t true (strOfNums [], strOfNums [])).isSome := by
  rw [Bool.eq_iff_iff, okT_iff t _ _ _ hf, Option.isSome_iff_exists]
  constructor
  · rintro ⟨h1, _⟩
    exact orT_bwd t true _ _ hf h1 (fun k hx => sl_nil (hk k hx)) (fun _ k _ => sle_nil k) (fun h => absurd h (by decide))
  · rintro ⟨x, hx⟩
    obtain ⟨h1, h2, h3, _⟩ := orT_fwd t true _ _ x hf hx
    exact ⟨h1, fun k hx => inB_iff.2 ⟨h3 (Or.inr rfl) k hx, Or.inl rfl⟩⟩
end Go.Proofs.YtnohmedccbogkaaGreatDoor

namespace Go.Proofs.YtnohmedccbogkaaGreatDoor
open Go.RowKit
set_option linter.unusedVariables false
def nd0 : NdK := ⟨0, false, [], [], [], []⟩
def Rep (ns : List NdK) : Tr → Bool → List Int → List ByteArray → Prop
  | .leaf id es, _, ds, _ => ∃ p : Nat, ds = [(p : Int)] ∧ ns[p]? = some ⟨id, true, es.map (·.1), es.map (·.2), [], []⟩
  | .node id ks, _, ds, _ => ∃ (p : Nat) (kd : List Int) (sg : List ByteArray), ds = [(p : Int)] ∧ ns[p]? = some ⟨id, false, [], [], kd, sg⟩ ∧ Rep ns ks true kd sg
  | .nil, _, ds, ss => ds = [] ∧ ss = []
  | .cons s t ks, b, ds, ss => ∃ (d : Int) (ds' : List Int) (ss' : List ByteArray), ds = d :: ds' ∧ ss = (if b = true then ss' else s :: ss') ∧ Rep ns t true [d] [] ∧ Rep ns ks false ds' ss'
theorem Rep.app {ns : List NdK} (ms : List NdK) : ∀ {t : Tr} {b : Bool} {ds : List Int} {ss : List ByteArray}, Rep ns t b ds ss → Rep (ns ++ ms) t b ds ss
  | .leaf id es, b, ds, ss, h => by
    rw [Rep] at h ⊢
    obtain ⟨p, h1, h2⟩ := h
    exact ⟨p, h1, by rw [List.getElem?_append_left (List.getElem?_eq_some_iff.1 h2).1]; exact h2⟩
  | .node id ks, b, ds, ss, h => by
    rw [Rep] at h ⊢
    obtain ⟨p, kd, sg, h1, h2, h3⟩ := h
    exact ⟨p, kd, sg, h1, by rw [List.getElem?_append_left (List.getElem?_eq_some_iff.1 h2).1]; exact h2, h3.app ms⟩
  | .nil, b, ds, ss, h => by rw [Rep] at h ⊢; exact h
  | .cons s t ks, b, ds, ss, h => by
    rw [Rep] at h ⊢
    obtain ⟨d, ds', ss', h1, h2, h3, h4⟩ := h
    exact ⟨d, ds', ss', h1, h2, h3.app ms, h4.app ms⟩
def preK : List (ByteArray × Tr) → Tr → Tr
  | [], k => k
  | (s, t) :: r, k => .cons s t (preK r k)
theorem preK_app (a b : List (ByteArray × Tr)) (k : Tr) : preK (a ++ b) k = preK a (preK b k) := by
  induction a with
  | nil => rfl
  | cons x r ih => cases x; simp [preK, ih]
theorem rep_pre {ns : List NdK} : ∀ (ts : List (ByteArray × Tr)) (b : Bool) (ds : List Int), ds.length = ts.length → (∀ i, i < ts.length → Rep ns (ts.getD i (strOfNums [], .nil)).2 true [ds.getD i 0] []) →
    Rep ns (preK ts .nil) b ds (if b = true then ts.tail.map (·.1) else ts.map (·.1))
  | [], b, ds, hl, _ => by
    have : ds = [] := List.eq_nil_of_length_eq_zero hl
    subst this
    cases b <;> simp [preK, Rep]
  | (s, t) :: r, b, [], hl, _ => by simp at hl
  | (s, t) :: r, b, d :: ds, hl, h => by
    rw [preK, Rep]
    refine ⟨d, ds, r.map (·.1), rfl, ?_, ?_, ?_⟩
    · cases b <;> simp
    · have := h 0 (by simp)
      simpa using this
    · have := rep_pre (ns := ns) r false ds (by simpa using hl) (fun i hi => by
        have := h (i + 1) (by simp; omega)
        simpa using this)
      simpa using this
def mkB (seen : List Int) (N : Nat) : List Value := (List.range N).map fun (i : Nat) => .bool (seen.contains (i : Int))
theorem mkB_len (seen : List Int) (N : Nat) : (mkB seen N).length = N := by simp [mkB]
theorem mkB_get (seen : List Int) (N i : Nat) (h : i < N) : (mkB seen N).getD i undef = .bool (seen.contains (i : Int)) := by simp [mkB, List.getD, h]
theorem mkB_set (seen : List Int) (N i : Nat) (h : i < N) : (mkB seen N).set i (.bool true) = mkB ((i : Int) :: seen) N := by
  apply List.ext_getElem?
  intro j
  rw [List.getElem?_set]
  by_cases e : i = j
  · subst e
    rw [if_pos rfl, mkB_len, if_pos h]
    simp [mkB, h]
  · rw [if_neg e]
    by_cases hj : j < N
    · simp [mkB, hj]
      intro hh
      exact absurd (by omega) e
    · simp [mkB, hj]
theorem nodup_le : ∀ (l m : List Nat), l.Nodup → (∀ x ∈ l, x ∈ m) → l.length ≤ m.length
  | [], m, _, _ => Nat.zero_le _
  | x :: l, m, h, hs => by
    rw [List.nodup_cons] at h
    have hx := hs x (by simp)
    have := nodup_le l (m.erase x) h.2 (fun y hy => (List.mem_erase_of_ne (fun e => by subst e; exact h.1 hy)).2 (hs y (by simp [hy])))
    rw [List.length_erase_of_mem hx] at this
    have : 0 < m.length := List.length_pos_of_mem hx
    simp
    omega
structure SeenOk (seen : List Int) (N : Nat) : Prop where
  nodup : seen.Nodup
  lt : ∀ x ∈ seen, 0 ≤ x ∧ x < (N : Int)
theorem SeenOk.le {seen : List Int} {N : Nat} (h : SeenOk seen N) : seen.length ≤ N := by
  have h1 : (seen.map Int.toNat).Nodup := by
    rw [List.Nodup, List.pairwise_map]
    refine List.Pairwise.imp_of_mem ?_ h.nodup
    intro a b ha hb hne he
    have := h.lt a ha
    have := h.lt b hb
    omega
  have h2 : ∀ x ∈ seen.map Int.toNat, x ∈ List.range N := by
    intro x hx
    obtain ⟨y, hy, rfl⟩ := List.mem_map.1 hx
    have := h.lt y hy
    rw [List.mem_range]
    omega
  have := nodup_le _ _ h1 h2
  simpa using this
theorem SeenOk.cons {seen : List Int} {N : Nat} (h : SeenOk seen N) {x : Int} (h0 : 0 ≤ x) (h1 : x < (N : Int)) (h2 : x ∉ seen) : SeenOk (x :: seen) N :=
  ⟨List.nodup_cons.2 ⟨h2, h.nodup⟩, fun y hy => by rcases List.mem_cons.1 hy with rfl | hy; exact ⟨h0, h1⟩; exact h.lt y hy⟩
def ndsF (nv : Nat → NdV) (ns : List NdK) : Nat → List Value := fun i => ndc (nv i) (ns.getD i nd0)
def trc (na : Option Addr) (n nc : Nat) (rt : Int) (sb N : Nat) (tall : Int) (bad : Bool) : List Value := [.slice na n nc, .int .i64 rt, .slice (some ⟨sb, 0, none⟩) N N, .int .i64 tall, .bool bad]
structure TSt (B0 g sb N : Nat) (rt : Int) (w : World) (ns : List NdK) (nv : Nat → NdV) (na : Option Addr) (nc : Nat) (seen : List Int) (tall : Int) (bad : Bool) : Prop where
  blk : Blk w 207 g (trc na ns.length nc rt sb N tall bad)
  mks : Own1 4 B0 w (some ⟨sb, 0, none⟩) N N (mkB seen N)
  nodes : ORow 257 6 B0 w na ns.length nc (ndsF nv ns)
  each : ∀ i, i < ns.length → ONd 0 w (nv i) (ns.getD i nd0)
  gB : B0 ≤ w.heap.size
  ok : SeenOk seen N
theorem Own1.blk {e B : Nat} {w : World} {g n c : Nat} {xs : List Value} (h : Own1 e B w (some ⟨g, 0, none⟩) n c xs) : B ≤ g ∧ ∃ cur, w.heap[g]? = some (.cells cur e (0, 0)) := by
  rcases h.2 with ⟨e1, _⟩ | ⟨g', cap, cur, e1, hB, hh, _⟩
  · cases e1
  · cases e1; exact ⟨hB, cur, hh⟩
theorem ORow.blk {e s B : Nat} {w : World} {g n c : Nat} {f : Nat → List Value} (h : ORow e s B w (some ⟨g, 0, none⟩) n c f) : B ≤ g ∧ ∃ cur, w.heap[g]? = some (.cells cur e (0, 0)) := by
  rcases h.2 with ⟨e1, _⟩ | ⟨g', cap, cur, e1, hB, hh, _⟩
  · cases e1
  · cases e1; exact ⟨hB, cur, hh⟩
theorem ORow.keep {e s B : Nat} {w w' : World} {a : Option Addr} {n c : Nat} {f : Nat → List Value} (h : ORow e s B w a n c f) (hk : ∀ g, a = some ⟨g, 0, none⟩ → w'.heap[g]? = w.heap[g]?) : ORow e s B w' a n c f := by
  refine ⟨h.1, ?_⟩
  rcases h.2 with h2 | ⟨k, cap, cur, hv, hg, hh, r⟩
  · exact Or.inl h2
  · refine Or.inr ⟨k, cap, cur, hv, hg, ?_, r⟩
    cases hv
    rw [hk k rfl]; exact hh
structure Fr3 (g sb : Nat) (na : Option Addr) (w w' : World) : Prop where
  os : w'.os = w.os
  tape : w'.tape = w.tape
  output : w'.output = w.output
  size : w.heap.size ≤ w'.heap.size
  block : ∀ k, k < w.heap.size → k ≠ g → k ≠ sb → na ≠ some ⟨k, 0, none⟩ → w'.heap[k]? = w.heap[k]?
theorem Fr3.ofBelow {g sb : Nat} {na : Option Addr} {w w' : World} (h : Below w.heap.size w w') : Fr3 g sb na w w' := ⟨h.os, h.tape, h.output, h.size, fun k hk _ _ _ => h.block k hk⟩
theorem Fr3.trans {g sb : Nat} {na na1 : Option Addr} {w w1 w2 : World} (h : Fr3 g sb na w w1) (h2 : Fr3 g sb na1 w1 w2) (hn : na1 = na ∨ ∃ k, na1 = some ⟨k, 0, none⟩ ∧ w.heap.size ≤ k) : Fr3 g sb na w w2 :=
  ⟨h2.os.trans h.os, h2.tape.trans h.tape, h2.output.trans h.output, Nat.le_trans h.size h2.size, fun k hk h3 h4 h5 => by
    rw [h2.block k (Nat.lt_of_lt_of_le hk h.size) h3 h4 (by
      rcases hn with rfl | ⟨k1, rfl, hk1⟩
      · exact h5
      · intro e; cases e; omega)]
    exact h.block k hk h3 h4 h5⟩
theorem Fr3.only {g sb b : Nat} {na : Option Addr} {w w' : World} (h : OnlyB b w w') (hb : b = g ∨ b = sb ∨ na = some ⟨b, 0, none⟩ ∨ w.heap.size ≤ b) : Fr3 g sb na w w' :=
  ⟨h.os, h.tape, h.output, h.size, fun k hk h3 h4 h5 => h.block k hk (fun e => by
    subst e
    rcases hb with hb | hb | hb | hb
    · exact h3 hb
    · exact h4 hb
    · exact h5 hb
    · omega)⟩
theorem Fr3.fresh {g sb b : Nat} {na : Option Addr} {w w1 w2 : World} (h : Fr3 g sb na w w1) (ho : OnlyB b w1 w2) (hb : w.heap.size ≤ b) : Fr3 g sb na w w2 :=
  ⟨ho.os.trans h.os, ho.tape.trans h.tape, ho.output.trans h.output, Nat.le_trans h.size ho.size, fun k hk h3 h4 h5 => by
    rw [ho.block k (Nat.lt_of_lt_of_le hk h.size) (by omega)]
    exact h.block k hk h3 h4 h5⟩
theorem TSt.types {B0 g sb N : Nat} {rt : Int} {w : World} {ns : List NdK} {nv : Nat → NdV} {na : Option Addr} {nc : Nat} {seen : List Int} {tall : Int} {bad : Bool} (h : TSt B0 g sb N rt w ns nv na nc seen tall bad) {k : Nat} {cs : Array Value} {t : Nat} {fr : Nat × Nat} (hk : w.heap[k]? = some (.cells cs t fr)) (h1 : t ≠ 207) (h2 : t ≠ 4) (h3 : t ≠ 257) :
    k ≠ g ∧ k ≠ sb ∧ na ≠ some ⟨k, 0, none⟩ := by
  refine ⟨fun e => ?_, fun e => ?_, fun e => ?_⟩
  · subst e
    have := h.blk
    unfold Blk at this
    rw [hk] at this
    cases this
    exact h1 rfl
  · subst e
    obtain ⟨_, cur, hc⟩ := h.mks.blk
    rw [hk] at hc
    cases hc
    exact h2 rfl
  · subst e
    obtain ⟨_, cur, hc⟩ := h.nodes.blk
    rw [hk] at hc
    cases hc
    exact h3 rfl
theorem Fr3.keepT {B0 g sb N : Nat} {rt : Int} {w w' : World} {ns : List NdK} {nv : Nat → NdV} {na : Option Addr} {nc : Nat} {seen : List Int} {tall : Int} {bad : Bool} (f : Fr3 g sb na w w') (h : TSt B0 g sb N rt w ns nv na nc seen tall bad) {t : Nat} (h1 : t ≠ 207) (h2 : t ≠ 4) (h3 : t ≠ 257) : KeepT t w w' :=
  ⟨f.size, fun k cs fr hk => by
    obtain ⟨a1, a2, a3⟩ := h.types hk h1 h2 h3
    rw [f.block k (Array.getElem?_eq_some_iff.1 hk).1 a1 a2 a3]
    exact hk⟩
theorem Fr3.onlyG {B0 g sb N : Nat} {rt : Int} {w0 w w' : World} {ns : List NdK} {nv : Nat → NdV} {na : Option Addr} {nc : Nat} {seen : List Int} {tall : Int} {bad : Bool} (f : Fr3 g sb na w w') (h : TSt B0 g sb N rt w ns nv na nc seen tall bad) (hB : w0.heap.size ≤ B0) (hw : OnlyB g w0 w) : OnlyB g w0 w' :=
  ⟨f.os.trans hw.os, f.tape.trans hw.tape, f.output.trans hw.output, Nat.le_trans hw.size f.size, fun k hk hn => by
    have hl := hw.size
    rw [f.block k (by omega) hn ?_ ?_]
    · exact hw.block k hk hn
    · have := h.mks.blk.1; omega
    · intro e; subst e; have := h.nodes.blk.1; omega⟩
theorem TSt.belowT {B0 g sb N : Nat} {rt : Int} {w w' : World} {ns : List NdK} {nv : Nat → NdV} {na : Option Addr} {nc : Nat} {seen : List Int} {tall : Int} {bad : Bool} (h : TSt B0 g sb N rt w ns nv na nc seen tall bad) (hb : Below w.heap.size w w') : TSt B0 g sb N rt w' ns nv na nc seen tall bad :=
  ⟨h.blk.below hb, h.mks.below hb, h.nodes.below hb, fun i hi => (h.each i hi).below hb, Nat.le_trans h.gB hb.size, h.ok⟩
theorem TSt.other {B0 g sb N b e : Nat} {rt : Int} {w w' : World} {ns : List NdK} {nv : Nat → NdV} {na : Option Addr} {nc : Nat} {seen : List Int} {tall : Int} {bad : Bool} {xs : List Value} (h : TSt B0 g sb N rt w ns nv na nc seen tall bad) (ho : OnlyB b w w') (hb : ∃ cur, w.heap[b]? = some (.cells cur e (0, 0))) (h1 : e ≠ 207) (h2 : e ≠ 4)
    (h3 : e ≠ 257 ∨ na ≠ some ⟨b, 0, none⟩) (h4 : e ≠ 9) (h5 : e ≠ 3 ∨ ∀ i, i < ns.length → (nv i).da ≠ some ⟨b, 0, none⟩) : TSt B0 g sb N rt w' ns nv na nc seen tall bad := by
  obtain ⟨cur, hc⟩ := hb
  have hk : ∀ t, e ≠ t → KeepT t w w' := fun t ht => ⟨ho.size, fun k cs fr hk => by
    by_cases ek : k = b
    · subst ek; rw [hc] at hk; cases hk; exact absurd rfl ht
    · rw [ho.block k (Array.getElem?_eq_some_iff.1 hk).1 ek]; exact hk⟩
  refine ⟨h.blk.keepT (hk _ h1), h.mks.keep (hk _ h2), h.nodes.keep (fun k ek => ?_), fun i hi => ?_, Nat.le_trans h.gB ho.size, h.ok⟩
  · subst ek
    obtain ⟨_, cur2, hc2⟩ := h.nodes.blk
    refine ho.block k (Array.getElem?_eq_some_iff.1 hc2).1 (fun ek => ?_)
    subst ek
    rcases h3 with h3 | h3
    · rw [hc] at hc2; cases hc2; exact h3 rfl
    · exact h3 rfl
  · have hE := h.each i hi
    refine ⟨hE.keys.keep (hk _ h4), hE.vals.keep (hk _ h4), ?_, hE.signs.keep (hk _ h4)⟩
    rcases h5 with h5 | h5
    · exact hE.kids.keep (hk _ h5)
    · refine ⟨hE.kids.1, ?_⟩
      rcases hE.kids.2 with h6 | ⟨k, cap, cur3, hv, hg, hh, r⟩
      · exact Or.inl h6
      · refine Or.inr ⟨k, cap, cur3, hv, hg, ?_, r⟩
        have : (nv i).da = some ⟨k, 0, none⟩ := by simp only [Value.slice.injEq] at hv; exact hv.1
        rw [ho.block k (Array.getElem?_eq_some_iff.1 hh).1 (fun ek => by subst ek; exact h5 i hi this)]
        exact hh
theorem TSt.set {B0 g sb N : Nat} {rt : Int} {w : World} {ns : List NdK} {nv : Nat → NdV} {na : Option Addr} {nc : Nat} {seen : List Int} {tall tall' : Int} {bad bad' : Bool} (h : TSt B0 g sb N rt w ns nv na nc seen tall bad) (i : Nat) (x : Value) (e : (trc na ns.length nc rt sb N tall bad).set i x = trc na ns.length nc rt sb N tall' bad') : TSt B0 g sb N rt (w.setCell ⟨g, i, none⟩ x) ns nv na nc seen tall' bad' := by
  have ho := onlyB_setCell w g i x
  have hk : ∀ t, 207 ≠ t → KeepT t w (w.setCell ⟨g, i, none⟩ x) := fun t ht => keepT_only ho h.blk ht
  have k1 := h.blk.set i x
  rw [e] at k1
  exact ⟨k1, h.mks.keep (hk _ (by decide)), ownsRow_keepT h.nodes (hk _ (by decide)), fun i hi => (h.each i hi).keep (hk _ (by decide)) (hk _ (by decide)), Nat.le_trans h.gB ho.size, h.ok⟩
theorem TSt.mark {B0 g sb N : Nat} {rt : Int} {w : World} {ns : List NdK} {nv : Nat → NdV} {na : Option Addr} {nc : Nat} {seen : List Int} {tall : Int} {bad : Bool} (h : TSt B0 g sb N rt w ns nv na nc seen tall bad) {i : Nat} (hi : i < N) (hs : (i : Int) ∉ seen) : TSt B0 g sb N rt (w.setCell ⟨sb, i, none⟩ (.bool true)) ns nv na nc ((i : Int) :: seen) tall bad := by
  have ho := onlyB_setCell w sb i (.bool true)
  obtain ⟨_, cur, hc⟩ := h.mks.blk
  have hk : ∀ t, 4 ≠ t → KeepT t w (w.setCell ⟨sb, i, none⟩ (.bool true)) := fun t ht => ⟨ho.size, fun k cs fr hk => by
    by_cases ek : k = sb
    · subst ek; rw [hc] at hk; cases hk; exact absurd rfl ht
    · rw [ho.block k (Array.getElem?_eq_some_iff.1 hk).1 ek]; exact hk⟩
  have s1 := h.mks.set i (.bool true)
  rw [mkB_set _ _ _ hi] at s1
  exact ⟨h.blk.keepT (hk _ (by decide)), s1, ownsRow_keepT h.nodes (hk _ (by decide)), fun i hi => (h.each i hi).keep (hk _ (by decide)) (hk _ (by decide)), Nat.le_trans h.gB ho.size, h.ok.cons (by omega) (by omega) hs⟩
theorem elNd : ElT 205 257 6 (.agg (ndc nilV nd0).toArray) 112 := ⟨Tryz.underlying205, by kernel_rfl, rfl, by omega⟩
theorem ndc_one (v : NdV) (K : NdK) : ∀ u ∈ ndc v K, u.oneCell' = true := by
  intro x hx
  simp [ndc] at hx
  rcases hx with rfl | rfl | rfl | rfl | rfl | rfl <;> rfl
def updN {α : Type} (f : Nat → α) (n : Nat) (x : α) : Nat → α := fun i => if i = n then x else f i
theorem updN_same {α : Type} (f : Nat → α) (n : Nat) (x : α) : updN f n x n = x := by simp [updN]
theorem updN_lt {α : Type} (f : Nat → α) {n i : Nat} (x : α) (h : i < n) : updN f n x i = f i := by simp [updN, Nat.ne_of_lt h]
theorem TSt.push {B0 g sb N : Nat} {rt : Int} {w w8 : World} {ns : List NdK} {nv : Nat → NdV} {na : Option Addr} {nc : Nat} {seen : List Int} {tall : Int} {bad : Bool} (h : TSt B0 g sb N rt w ns nv na nc seen tall bad) {v : NdV} {K : NdK} (o : ONd 0 w v K) {g8 c8 : Nat}
    (o8 : ORow 257 6 B0 w8 (some ⟨g8, 0, none⟩) (ns.length + 1) c8 (updR (ndsF nv ns) ns.length (ndc v K))) (b8 : Below B0 w w8) (gr : (w.alloc (.cells (ndc v K).toArray 257)).grownBy w8 (Value.slice na ns.length nc).ownBlock) :
    TSt B0 g sb N rt (w8.setCell ⟨g, 0, none⟩ (.slice (some ⟨g8, 0, none⟩) (ns.length + 1) c8)) (ns ++ [K]) (updN nv ns.length v) (some ⟨g8, 0, none⟩) c8 seen tall bad := by
  have q0 : Below w.heap.size w (w.alloc (.cells (ndc v K).toArray 257)) := (Below.refl _ _).alloc (Nat.le_refl _) _
  have hA := h.belowT q0
  have hk : ∀ t, 257 ≠ t → KeepT t w w8 := fun t ht => (keepT_below q0).trans (keepT_grown (own_below h.nodes q0) gr ht)
  have kg : Blk w8 207 g _ := h.blk.keepT (hk _ (by decide))
  have ho := onlyB_setCell w8 g 0 (.slice (some ⟨g8, 0, none⟩) (ns.length + 1) c8)
  have hk2 : ∀ t, 207 ≠ t → KeepT t w8 (w8.setCell ⟨g, 0, none⟩ (.slice (some ⟨g8, 0, none⟩) (ns.length + 1) c8)) := fun t ht => keepT_only ho kg ht
  have k1 := kg.set 0 (.slice (some ⟨g8, 0, none⟩) (ns.length + 1) c8)
  refine ⟨?_, (h.mks.keep (hk _ (by decide))).keep (hk2 _ (by decide)), ?_, fun i hi => ?_, Nat.le_trans h.gB (Nat.le_trans b8.size ho.size), h.ok⟩
  · have e : (trc na ns.length nc rt sb N tall bad).set 0 (.slice (some ⟨g8, 0, none⟩) (ns.length + 1) c8) = trc (some ⟨g8, 0, none⟩) (ns ++ [K]).length c8 rt sb N tall bad := by simp [trc]
    rw [e] at k1
    exact k1
  · have o9 := ownsRow_keepT o8 (hk2 _ (by decide))
    rw [List.length_append]
    refine ORow.congr (f := updR (ndsF nv ns) ns.length (ndc v K)) o9 (fun i hi => ?_)
    have hi' : i < ns.length + 1 := hi
    by_cases e : i = ns.length
    · subst e; rw [updR_same]; unfold ndsF; rw [updN_same]; simp
    · rw [updR_lt _ _ (by omega)]; unfold ndsF; rw [updN_lt _ _ (by omega)]; simp [List.getD, List.getElem?_append_left (show i < ns.length by omega)]
  · rw [List.length_append] at hi
    have hi' : i < ns.length + 1 := hi
    by_cases e : i = ns.length
    · subst e
      rw [updN_same]
      have : (ns ++ [K]).getD ns.length nd0 = K := by simp
      rw [this]
      exact (o.keep (hk _ (by decide)) (hk _ (by decide))).keep (hk2 _ (by decide)) (hk2 _ (by decide))
    · rw [updN_lt _ _ (by omega)]
      have : (ns ++ [K]).getD i nd0 = ns.getD i nd0 := by simp [List.getD, List.getElem?_append_left (show i < ns.length by omega)]
      rw [this]
      exact ((h.each i (by omega)).keep (hk _ (by decide)) (hk _ (by decide))).keep (hk2 _ (by decide)) (hk2 _ (by decide))
theorem Fr3.push {g sb : Nat} {na : Option Addr} {w w8 : World} {n nc : Nat} {x : Value} {cs : Array Value} {t B : Nat} {f : Nat → List Value} (hn : ORow 257 6 B w na n nc f) (gr : (w.alloc (.cells cs t)).grownBy w8 (Value.slice na n nc).ownBlock) (hg : g < w.heap.size) : Fr3 g sb na w (w8.setCell ⟨g, 0, none⟩ x) := by
  have ho := onlyB_setCell w8 g 0 x
  have q0 : Below w.heap.size w (w.alloc (.cells cs t)) := (Below.refl _ _).alloc (Nat.le_refl _) _
  refine ⟨ho.os.trans (gr.os.trans q0.os), ho.tape.trans (gr.tape.trans q0.tape), ho.output.trans (gr.output.trans q0.output), Nat.le_trans q0.size (Nat.le_trans gr.size ho.size), fun k hk h1 h2 h3 => ?_⟩
  have hk8 : k < w8.heap.size := Nat.lt_of_lt_of_le hk (Nat.le_trans q0.size gr.size)
  rw [ho.block k hk8 h1, gr.block k (Nat.lt_of_lt_of_le hk q0.size) ?_]
  · exact q0.block k hk
  · intro e
    rcases hn.2 with ⟨e1, _⟩ | ⟨g', cap, cur, e1, _⟩
    · rw [e1] at e; simp [Value.ownBlock] at e
    · rw [e1] at e
      simp [Value.ownBlock] at e
      cases e1
      subst e
      exact h3 rfl
theorem rdK_none {r : St → Int → Option (Tr × St)} {s : ByteArray} {id : Int} {ls : List (ByteArray × Int)} {st : St} (h : r st id = none) : rdK r ((s, id) :: ls) st = none := by rw [rdK, h]; rfl
theorem rdK_step {r : St → Int → Option (Tr × St)} {s : ByteArray} {id : Int} {ls : List (ByteArray × Int)} {st st1 : St} {T : Tr} {ts : List (ByteArray × Tr)} (h : r st id = some (T, st1)) :
    (rdK r ((s, id) :: ls) st).map (fun y => (preK ts y.1, y.2)) = (rdK r ls st1).map (fun y => (preK (ts ++ [(s, T)]) y.1, y.2)) := by
  rw [rdK, h]
  simp only [Option.bind_some]
  cases rdK r ls st1 with
  | none => rfl
  | some y => simp [preK_app, preK]
end Go.Proofs.YtnohmedccbogkaaGreatDoor

namespace Go.Proofs.YtnohmedccbogkaaGreatDoor
open Go.RowKit
set_option linter.unusedVariables false
theorem elEn : ElT 77 93 2 (.agg #[.string (strOfNums []), .string (strOfNums [])]) 32 := ⟨Tryz.underlying77, by kernel_rfl, rfl, by omega⟩
def e0 : ByteArray × ByteArray := (strOfNums [], strOfNums [])
def enF (es : List (ByteArray × ByteArray)) : Nat → List Value := fun i => [.string (es.getD i e0).1, .string (es.getD i e0).2]
theorem ORow.onlyN {e s B g : Nat} {w w' : World} {a : Option Addr} {n c : Nat} {f : Nat → List Value} (h : ORow e s B w a n c f) (ho : OnlyB g w w') (hg : g < B) : ORow e s B w' a n c f :=
  h.keep (fun k ek => by
    subst ek
    obtain ⟨hB, cur, hc⟩ := h.blk
    exact ho.block k (Array.getElem?_eq_some_iff.1 hc).1 (by omega))
theorem enF_app (es : List (ByteArray × ByteArray)) (x : ByteArray × ByteArray) (i : Nat) (hi : i < es.length + 1) : updR (enF es) es.length [.string x.1, .string x.2] i = enF (es ++ [x]) i := by
  by_cases e : i = es.length
  · subst e
    rw [updR_same]
    simp [enF]
  · rw [updR_lt _ _ (by omega)]
    simp [enF, List.getD, List.getElem?_append_left (show i < es.length by omega)]
def curLen (w : World) (g : Nat) : Nat := match w.cell? ⟨g, 0, none⟩ with | some (.slice _ n _) => n | _ => 0
theorem curLen_is {w : World} {g B : Nat} {l : List Int} (h : Cur w g B l) : curLen w g = l.length := by
  obtain ⟨a, n, c, h⟩ := h
  have cc : w.cell? ⟨g, 0, none⟩ = some (.slice a n c) := h.blk.cell 0
  unfold curLen
  rw [cc, h.bs.len_eq]
def EnP (l : List Int) (g : Nat) (w : World) (e : Ending) (w' : World) : Prop := OnlyB g w w' ∧ ((∃ es a c, lfP l = some es ∧ es ≠ [] ∧ e = .returned (.slice a es.length c) ∧ ORow 93 2 w.heap.size w' a es.length c (enF es)) ∨ ((lfP l = none ∨ lfP l = some []) ∧ e = .panicked badE))
theorem built_en (a b : ByteArray) : Tryz.prog.built 93 [(0, .string a), (1, .string b)] = some #[.string a, .string b] := by kernel_rfl
theorem lfV_is (l : List Int) : lfV l = lfK (l.drop (1 + lfK l)) := by
  unfold lfV
  generalize 1 + lfK l = p
  unfold lfK
  simp [List.getD]
set_option maxHeartbeats 2000000 in
set_option maxRecDepth 100000 in
theorem entries_calls (g B : Nat) (l : List Int) (w : World) (h : Cur w g B l) (hB : B ≤ w.heap.size) (hl : l.length ≤ 1048576) :
    Calls Tryz.prog 158 #[.pointer (some ⟨g, 0, none⟩)] w fun e w' => EnP l g w e w' := by
  have hg := h.lt
  have H0 : Hid _ := h
  clear h
  go_enter Tryz.func158, Tryz.ntmps158
  go_wp2_with fail
  go_loopw [3] (fun s wr => ∃ (a : Option Addr) (c : Nat) (es : List (ByteArray × ByteArray)) (l1 : List Int), s = .slice a es.length c ∧ OnlyB g w wr ∧ Cur wr g B l1 ∧ ORow 93 2 w.heap.size wr a es.length c (enF es) ∧ lfP l = (lfP l1).map (es ++ ·) ∧ es.length + l1.length ≤ l.length) (fun _ wr => curLen wr g)
  case atStart => exact ⟨none, 0, [], l, rfl, OnlyB.refl _ _, H0.out, orow_nil _ _ _ _ _, by simp, by simp⟩
  case round =>
    obtain ⟨a, c, es, l1, rfl, ho, hc, hr, heq, hle⟩ := hrel
    obtain ⟨wR, hwX⟩ : ∃ wX, wX = wr := ⟨_, rfl⟩
    subst hwX
    have hcl := curLen_is hc
    have HCL : Hid _ := hcl
    have HE : Hid _ := And.intro heq (And.intro ho hr)
    have hwz : w.heap.size ≤ wR.heap.size := ho.size
    clear hcl heq ho hr
    by_cases hstop : 0 < es.length ∧ l1.length = 0
    · obtain ⟨he0, hl0⟩ := hstop
      have DC := done_calls g B l1 wR hc
      rw [decide_eq_true hl0] at DC
      have he1 : ((es.length : Int) == 0) = false := by simp only [beq_eq_false_iff_ne, ne_eq]; omega
      have hfin : Hid (lfP l = some es) := by show lfP l = some es; rw [HE.out.1, lfP_nil hl0]; simp
      clear hc
      go_wp2_with fail
      refine DC.mono ?_
      rintro e u ⟨rfl, hu⟩
      obtain rfl := hu.symm
      clear hu DC
      go_wp2_with fail
      go_ret
      exact ⟨HE.out.2.1, Or.inl ⟨es, a, c, hfin.out, fun e => by rw [e] at he0; simp at he0, rfl, HE.out.2.2⟩⟩
    have hd : es.length = 0 ∨ (0 < es.length ∧ 0 < l1.length) := by omega
    have FINP : Hid (∀ w', OnlyB g wR w' → lfOne l1 = false → EnP l g w (.panicked badE) w') := fun w' ho hq => by
      refine ⟨HE.out.2.1.trans ho, Or.inr ⟨?_, rfl⟩⟩
      rw [HE.out.1]
      rcases hd with e | ⟨_, e⟩
      · rw [List.length_eq_zero_iff.1 e]
        by_cases hz : l1.length = 0
        · right; rw [lfP_nil hz]; rfl
        · left; rw [lfP_no hz hq]; rfl
      · left; rw [lfP_no (by omega) hq]; rfl
    rcases hd with he0 | ⟨he0, hl0⟩
    all_goals
      first
        | (have he1 : ((es.length : Int) == 0) = true := by rw [he0]; rfl
           have HZ : Hid _ := he0
           clear he0
           go_upto_region 3 with fail
           clear he1)
        | (have DC := done_calls g B l1 wR hc
           rw [decide_eq_false (by omega)] at DC
           have he1 : ((es.length : Int) == 0) = false := by simp only [beq_eq_false_iff_ne, ne_eq]; omega
           go_upto_region 3 with fail
           refine DC.mono ?_
           rintro e u ⟨rfl, hu⟩
           obtain rfl := hu.symm
           clear hu DC
           go_upto_region 3 with fail
           clear he1)
      by_cases hk : ¬ (1 ≤ lfK l1 ∧ lfK l1 ≤ 40 ∧ 1 + lfK l1 ≤ l1.length)
      · have KN := key_no g B l1 wR hc hk
        have hno : lfOne l1 = false := by
          rw [← Bool.not_eq_true, lfOne_iff]; omega
        clear hc
        go_wp2_with fail
        refine KN.mono ?_
        rintro e w1 ⟨rfl, o1⟩
        go_wp2
        exact ⟨rfl, FINP.out _ o1 hno⟩
      obtain ⟨hk1, hk2, hk3⟩ := Decidable.of_not_not hk
      have KY := key_yes g B l1 wR hc hk1 hk2 hk3
      clear hc
      go_upto_region 4 with fail
      refine KY.mono ?_
      rintro e w1 ⟨rfl, o1, C1⟩
      clear KY
      go_upto_region 4 with fail
      have hdl : (l1.drop (1 + lfK l1)).length = l1.length - (1 + lfK l1) := List.length_drop
      have hvk : lfV l1 = lfK (l1.drop (1 + lfK l1)) := lfV_is l1
      by_cases hv : ¬ (lfK (l1.drop (1 + lfK l1)) ≤ 70 ∧ 1 + lfK (l1.drop (1 + lfK l1)) ≤ (l1.drop (1 + lfK l1)).length)
      · have VN := value_no g B _ w1 C1 hv
        have hno : lfOne l1 = false := by
          rw [← Bool.not_eq_true, lfOne_iff]; omega
        clear C1
        go_wp2_with fail
        refine VN.mono ?_
        rintro e w2 ⟨rfl, o2⟩
        go_wp2
        exact ⟨rfl, FINP.out _ (o1.trans o2) hno⟩
      obtain ⟨hv1, hv2⟩ := Decidable.of_not_not hv
      have VY := value_yes g B _ w1 C1 hv1 hv2
      clear C1
      have hone : lfOne l1 = true := by rw [lfOne_iff]; omega
      have hval : vlVal (l1.drop (1 + lfK l1)) = lfVal l1 := by
        unfold vlVal lfVal
        rw [hvk, List.drop_drop]
        congr 3
        omega
      rw [hval, List.drop_drop] at VY
      have hlen : 1 + lfK l1 + (1 + lfK (l1.drop (1 + lfK l1))) = lfLen l1 := by unfold lfLen; omega
      rw [hlen] at VY
      have hll : lfLen l1 ≤ l1.length := by omega
      have hlp : 0 < lfLen l1 := by omega
      have HY : Hid _ := hone
      clear hval hvk hdl hv1 hv2 hk1 hk2 hk3 hlen hone
      go_wp2_with fail
      refine VY.mono ?_
      rintro e w2 ⟨rfl, o2, C2⟩
      clear VY
      have o12 := o1.trans o2
      have hR2 := HE.out.2.2.onlyN o12 (by omega)
      have hz2 : w.heap.size ≤ w2.heap.size := Nat.le_trans hwz o12.size
      have HC2 : Hid _ := And.intro C2 o12
      clear C2 o12 o1 o2
      have hbu := built_en (lfKey l1) (lfVal l1)
      go_upto_region 9 with (first | (refine wpList_appRow rfl _ _ elEn rfl w.heap.size a _ c (enF es) rfl hR2 [.string (lfKey l1), .string (lfVal l1)] rfl (by simp [Value.oneCell']) rfl (by omega) (by omega) hz2 ?_; rintro a' c' w4 hown' hb hgr))
      have o4 : OnlyB g w w4 := (HE.out.2.1.trans HC2.out.2).thenN hb (Nat.le_refl _)
      have C4 := HC2.out.1.belowB hb (by omega) hg
      refine ⟨⟨a', c', es ++ [(lfKey l1, lfVal l1)], l1.drop (lfLen l1), by simp, o4, C4, ?_, ?_, ?_⟩, ?_⟩
      · rw [List.length_append]
        exact hown'.congr (fun i hi => enF_app es (lfKey l1, lfVal l1) i hi)
      · rw [HE.out.1, lfP_yes HY.out]
        cases lfP (l1.drop (lfLen l1)) with
        | none => rfl
        | some r => simp
      · simp; omega
      · rw [curLen_is C4, HCL.out]
        simp; omega
end Go.Proofs.YtnohmedccbogkaaGreatDoor

namespace Go.Proofs.YtnohmedccbogkaaGreatDoor
open Go.RowKit
set_option linter.unusedVariables false
theorem elLn : ElT 227 230 2 (.agg #[.string (strOfNums []), .int .i64 0]) 24 := ⟨Tryz.underlying227, by kernel_rfl, rfl, by omega⟩
def l0 : ByteArray × Int := (strOfNums [], 0)
def lnF (es : List (ByteArray × Int)) : Nat → List Value := fun i => [.string (es.getD i l0).1, .int .i64 (es.getD i l0).2]
theorem lnF_app (es : List (ByteArray × Int)) (x : ByteArray × Int) (i : Nat) (hi : i < es.length + 1) : updR (lnF es) es.length [.string x.1, .int .i64 x.2] i = lnF (es ++ [x]) i := by
  by_cases e : i = es.length
  · subst e
    rw [updR_same]
    simp [lnF]
  · rw [updR_lt _ _ (by omega)]
    simp [lnF, List.getD, List.getElem?_append_left (show i < es.length by omega)]
def LnP (l : List Int) (g : Nat) (w : World) (e : Ending) (w' : World) : Prop := OnlyB g w w' ∧ ((∃ ls a c, inP l = some ls ∧ e = .returned (.slice a ls.length c) ∧ ORow 230 2 w.heap.size w' a ls.length c (lnF ls)) ∨ (inP l = none ∧ e = .panicked badE))
theorem built_ln (a : ByteArray) (i : Int) : Tryz.prog.built 230 [(0, .string a), (1, .int .i64 i)] = some #[.string a, .int .i64 i] := by kernel_rfl
theorem built_ln1 (i : Int) : Tryz.prog.built 230 [(1, .int .i64 i)] = some #[.string (strOfNums []), .int .i64 i] := by kernel_rfl
theorem orow_one (e s B : Nat) (w : World) (hB : B ≤ w.heap.size) (x : List Value) (hx : x.length = s) (f : Nat → List Value) (hf : f 0 = x) : ORow e s B (w.alloc (.cells x.toArray e)) (some ⟨w.heap.size, 0, none⟩) 1 1 f := by
  have := World.ownsRow_lit (base := B) (e := e) (size := s) w x.toArray 1 hB (by unfold maxLen; omega) (by simp [hx])
  simpa [ORow, rowV, hf] using this
set_option maxHeartbeats 2000000 in
set_option maxRecDepth 100000 in
theorem links_calls (g B : Nat) (l : List Int) (w : World) (h : Cur w g B l) (hB : B ≤ w.heap.size) (hl : l.length ≤ 1048576) :
    Calls Tryz.prog 159 #[.pointer (some ⟨g, 0, none⟩)] w fun e w' => LnP l g w e w' := by
  have hg := h.lt
  by_cases h4 : l.length < 4
  · have I := id_no g B l w h h4
    have hno : inP l = none := by unfold inP; rw [if_neg (by omega)]
    clear h
    go_enter Tryz.func159, Tryz.ntmps159
    go_wp2_with fail
    refine I.mono ?_
    rintro e w1 ⟨rfl, o1⟩
    go_wp2
    exact ⟨rfl, o1, Or.inr ⟨hno, rfl⟩⟩
  have I := id_yes g B l w h (by omega)
  have hin : inP l = (lnP (l.drop 4)).map ((strOfNums [], low4 l) :: ·) := by unfold inP; rw [if_pos (by omega)]
  have HIN : Hid _ := hin
  rw [show low (l.take 4) = low4 l from rfl] at I
  clear h hin
  go_enter Tryz.func159, Tryz.ntmps159
  go_upto_region 2 with fail
  refine I.mono ?_
  rintro e w1 ⟨rfl, o1, C1⟩
  clear I
  have hbu := built_ln1 (low4 l)
  have HC1 : Hid _ := And.intro o1 C1
  have hz1 := o1.size
  clear o1 C1
  go_upto_region 2 with fail
  have hR1 : ORow 230 2 w.heap.size (w1.alloc (.cells [.string (strOfNums []), .int .i64 (low4 l)].toArray 230)) (some ⟨w1.heap.size, 0, none⟩) 1 1 (lnF [(strOfNums [], low4 l)]) := orow_one _ _ _ _ hz1 _ rfl _ rfl
  have hb1 : Below w1.heap.size w1 (w1.alloc (.cells [.string (strOfNums []), .int .i64 (low4 l)].toArray 230)) := (Below.refl _ _).alloc (Nat.le_refl _) _
  have o1 := HC1.out.1.thenN hb1 hz1
  have C1 := HC1.out.2.belowB hb1 (by omega) (by omega)
  change Code.wp _ _ _ _ (w1.alloc (.cells [.string (strOfNums []), .int .i64 (low4 l)].toArray 230))
  generalize (w1.alloc (.cells [.string (strOfNums []), .int .i64 (low4 l)].toArray 230)) = W at *
  generalize w1.heap.size = k1 at *
  have H0 : Hid _ := And.intro o1 (And.intro C1 hR1)
  clear o1 C1 hR1 hb1 HC1 hz1 hbu
  go_loopw [3] (fun s wr => ∃ (a : Option Addr) (c : Nat) (es : List (ByteArray × Int)) (l1 : List Int), s = .slice a es.length c ∧ OnlyB g w wr ∧ Cur wr g B l1 ∧ ORow 230 2 w.heap.size wr a es.length c (lnF es) ∧ inP l = (lnP l1).map (es ++ ·) ∧ es.length + l1.length ≤ l.length) (fun _ wr => curLen wr g)
  case atStart => exact ⟨some ⟨k1, 0, none⟩, 1, [(strOfNums [], low4 l)], l.drop 4, rfl, H0.out.1, H0.out.2.1, H0.out.2.2, by rw [HIN.out]; rfl, by simp; omega⟩
  case round =>
    obtain ⟨a, c, es, l1, rfl, ho, hc, hr, heq, hle⟩ := hrel
    obtain ⟨wR, hwX⟩ : ∃ wX, wX = wr := ⟨_, rfl⟩
    subst hwX
    have hcl := curLen_is hc
    have HCL : Hid _ := hcl
    have HE : Hid _ := And.intro heq (And.intro ho hr)
    have hwz : w.heap.size ≤ wR.heap.size := ho.size
    clear hcl heq ho hr
    have DC := done_calls g B l1 wR hc
    by_cases hl0 : l1.length = 0
    · rw [decide_eq_true hl0] at DC
      have hfin : Hid (inP l = some es) := by show inP l = some es; rw [HE.out.1, lnP_nil hl0]; simp
      clear hc
      go_wp2_with fail
      refine DC.mono ?_
      rintro e u ⟨rfl, hu⟩
      obtain rfl := hu.symm
      clear hu DC
      go_wp2_with fail
      go_ret
      exact ⟨HE.out.2.1, Or.inl ⟨es, a, c, hfin.out, rfl, HE.out.2.2⟩⟩
    rw [decide_eq_false hl0] at DC
    have FINP : Hid (∀ w', OnlyB g wR w' → lnOne l1 = false → LnP l g w (.panicked badE) w') := fun w' ho hq => by
      refine ⟨HE.out.2.1.trans ho, Or.inr ⟨?_, rfl⟩⟩
      rw [HE.out.1, lnP_no hl0 hq]; rfl
    go_upto_region 3 with fail
    refine DC.mono ?_
    rintro e u ⟨rfl, hu⟩
    obtain rfl := hu.symm
    clear hu DC
    go_upto_region 3 with fail
    by_cases hk : ¬ (1 ≤ lfK l1 ∧ lfK l1 ≤ 40 ∧ 1 + lfK l1 ≤ l1.length)
    · have KN := key_no g B l1 wR hc hk
      have hno : lnOne l1 = false := by
        rw [← Bool.not_eq_true, lnOne_iff]; omega
      clear hc
      go_wp2_with fail
      refine KN.mono ?_
      rintro e w1 ⟨rfl, o1⟩
      go_wp2
      exact ⟨rfl, FINP.out _ o1 hno⟩
    obtain ⟨hk1, hk2, hk3⟩ := Decidable.of_not_not hk
    have KY := key_yes g B l1 wR hc hk1 hk2 hk3
    clear hc
    go_upto_region 4 with fail
    refine KY.mono ?_
    rintro e w1 ⟨rfl, o1, C1⟩
    clear KY
    go_upto_region 4 with fail
    have hdl : (l1.drop (1 + lfK l1)).length = l1.length - (1 + lfK l1) := List.length_drop
    by_cases hv : (l1.drop (1 + lfK l1)).length < 4
    · have VN := id_no g B _ w1 C1 hv
      have hno : lnOne l1 = false := by
        rw [← Bool.not_eq_true, lnOne_iff]; omega
      clear C1
      go_wp2_with fail
      refine VN.mono ?_
      rintro e w2 ⟨rfl, o2⟩
      go_wp2
      exact ⟨rfl, FINP.out _ (o1.trans o2) hno⟩
    have VY := id_yes g B _ w1 C1 (by omega)
    clear C1
    have hone : lnOne l1 = true := by rw [lnOne_iff]; omega
    rw [show low ((l1.drop (1 + lfK l1)).take 4) = low4 (l1.drop (1 + lfK l1)) from rfl, List.drop_drop, show 1 + lfK l1 + 4 = 5 + lfK l1 by omega] at VY
    have hll : 5 + lfK l1 ≤ l1.length := by omega
    have HY : Hid _ := hone
    clear hdl hv hk1 hk2 hk3 hone
    go_wp2_with fail
    refine VY.mono ?_
    rintro e w2 ⟨rfl, o2, C2⟩
    clear VY
    have o12 := o1.trans o2
    have hR2 := HE.out.2.2.onlyN o12 (by omega)
    have hz2 : w.heap.size ≤ w2.heap.size := Nat.le_trans hwz o12.size
    have HC2 : Hid _ := And.intro C2 o12
    clear C2 o12 o1 o2
    have hbu := built_ln (lfKey l1) (low4 (l1.drop (1 + lfK l1)))
    generalize hid : low4 (l1.drop (1 + lfK l1)) = idn at *
    have HID : Hid _ := hid
    clear hid
    go_upto_region 9 with (first | (refine wpList_appRow rfl _ _ elLn rfl w.heap.size a _ c (lnF es) rfl hR2 [.string (lfKey l1), .int .i64 idn] rfl (by simp [Value.oneCell']) rfl (by omega) (by omega) hz2 ?_; rintro a' c' w4 hown' hb hgr))
    have o4 : OnlyB g w w4 := (HE.out.2.1.trans HC2.out.2).thenN hb (Nat.le_refl _)
    have C4 := HC2.out.1.belowB hb (by omega) hg
    refine ⟨⟨a', c', es ++ [(lfKey l1, idn)], l1.drop (5 + lfK l1), by simp, o4, C4, ?_, ?_, ?_⟩, ?_⟩
    · rw [List.length_append]
      exact hown'.congr (fun i hi => lnF_app es (lfKey l1, idn) i hi)
    · rw [HE.out.1, lnP_yes HY.out, HID.out]
      cases lnP (l1.drop (5 + lfK l1)) with
      | none => rfl
      | some r => simp
    · simp; omega
    · rw [curLen_is C4, HCL.out]
      simp; omega
end Go.Proofs.YtnohmedccbogkaaGreatDoor

namespace Go.Proofs.YtnohmedccbogkaaGreatDoor
open Go.RowKit
set_option linter.unusedVariables false
abbrev LSg := ByteArray × ByteArray
def wkT (P : Pg) (f : Nat) (steps : Int) (st : St) (x : LSg) (id : Int) : Option (Tr × St × LSg) := (rdT P f steps st id).bind fun y => (orT y.1 true x).map fun z => (y.1, y.2, z)
def wkK (r : St → LSg → Int → Option (Tr × St × LSg)) : List (ByteArray × Int) → Bool → St → LSg → Option (Tr × St × LSg)
  | [], _, st, x => some (.nil, st, x)
  | (s, id) :: ls, b, st, x => if b = true ∨ sl x.1 s = true then (r st (x.1, if b = true then x.2 else s) id).bind fun y => (wkK r ls false y.2.1 y.2.2).map fun z => (.cons s y.1 z.1, z.2) else none
theorem wkK_eq (P : Pg) (f : Nat) (steps : Int) : ∀ (ls : List (ByteArray × Int)) (b : Bool) (st : St) (x : LSg), wkK (wkT P f steps) ls b st x = (rdK (rdT P f steps) ls st).bind fun y => (orT y.1 b x).map fun z => (y.1, y.2, z)
  | [], b, st, x => by simp [wkK, rdK, orT]
  | (s, id) :: ls, b, st, x => by
    rw [wkK, rdK]
    cases hr : rdT P f steps st id with
    | none =>
      simp only [Option.bind_none]
      split
      · simp [wkT, hr]
      · rfl
    | some y =>
      simp only [Option.bind_some]
      by_cases hc : b = true ∨ sl x.1 s = true
      · rw [if_pos hc]
        cases ho : orT y.1 true (x.1, if b = true then x.2 else s) with
        | none =>
          have e1 : wkT P f steps st (x.1, if b = true then x.2 else s) id = none := by simp only [wkT, hr, Option.bind_some, ho, Option.map_none]
          rw [e1, Option.bind_none]
          cases hk : rdK (rdT P f steps) ls y.2 with
          | none => rfl
          | some z =>
            simp only [Option.bind_some]
            have e2 : orT (.cons s y.1 z.1) b x = none := by rw [orT, if_pos hc, ho]; rfl
            rw [e2]
            rfl
        | some o =>
          have e1 : wkT P f steps st (x.1, if b = true then x.2 else s) id = some (y.1, y.2, o) := by simp only [wkT, hr, Option.bind_some, ho, Option.map_some]
          rw [e1, Option.bind_some, wkK_eq P f steps ls false y.2 o]
          cases hk : rdK (rdT P f steps) ls y.2 with
          | none => rfl
          | some z =>
            simp only [Option.bind_some]
            have e2 : orT (.cons s y.1 z.1) b x = orT z.1 false o := by rw [orT, if_pos hc, ho]; rfl
            rw [e2]
            cases orT z.1 false o <;> rfl
      · rw [if_neg hc]
        cases hk : rdK (rdT P f steps) ls y.2 with
        | none => rfl
        | some z =>
          simp only [Option.bind_some]
          have e2 : orT (.cons s y.1 z.1) b x = none := by rw [orT, if_neg hc]
          rw [e2]
          rfl
def leR (l : List Int) (x : LSg) : Option (List (ByteArray × ByteArray) × LSg) := (lfP l).bind fun es => if es.isEmpty then none else (orE es x).map fun z => (es, z)
theorem wkT_bad {P : Pg} {f : Nat} {steps : Int} {st : St} {x : LSg} {id : Int} (h : pgOk P st id = false) : wkT P (f + 1) steps st x id = none := by
  unfold wkT
  rw [rdT, if_neg (by rw [h]; decide)]
  rfl
theorem wkT_tall {P : Pg} {f : Nat} {steps : Int} {st : St} {x : LSg} {id : Int} (h : P.kd id = 2) (ht : ¬ (st.tall < 0 ∨ st.tall = steps)) : wkT P (f + 1) steps st x id = none := by
  unfold wkT
  rw [rdT]
  cases pgOk P st id with
  | true => rw [if_pos rfl, if_pos h, if_neg ht]; rfl
  | false => rfl
theorem wkT_leaf {P : Pg} {f : Nat} {steps : Int} {st : St} {x : LSg} {id : Int} (h1 : pgOk P st id = true) (h : P.kd id = 2) (ht : st.tall < 0 ∨ st.tall = steps) : wkT P (f + 1) steps st x id = (leR (P.bd id) x).map fun y => (.leaf id y.1, ⟨id :: st.seen, steps⟩, y.2) := by
  unfold wkT leR
  rw [rdT, if_pos h1, if_pos h, if_pos ht]
  cases lfP (P.bd id) with
  | none => rfl
  | some es =>
    simp only [Option.bind_some]
    cases he : es.isEmpty with
    | true => rfl
    | false =>
      simp only [Bool.false_eq_true, if_false, Option.bind_some, orT]
      cases orE es x <;> rfl
theorem wkT_node {P : Pg} {f : Nat} {steps : Int} {st : St} {x : LSg} {id : Int} (h1 : pgOk P st id = true) (h : P.kd id ≠ 2) : wkT P (f + 1) steps st x id = (inP (P.bd id)).bind fun ls => (wkK (wkT P f (steps + 1)) ls true ⟨id :: st.seen, st.tall⟩ x).map fun y => (.node id y.1, y.2.1, y.2.2) := by
  unfold wkT
  rw [rdT, if_pos h1, if_neg h]
  cases inP (P.bd id) with
  | none => rfl
  | some ls =>
    simp only [Option.bind_some]
    rw [show (fun st x id => (rdT P f (steps + 1) st id).bind fun y => (orT y.1 true x).map fun z => (y.1, y.2, z)) = wkT P f (steps + 1) from rfl, wkK_eq]
    cases rdK (rdT P f (steps + 1)) ls ⟨id :: st.seen, st.tall⟩ with
    | none => rfl
    | some y =>
      simp only [Option.map_some, Option.bind_some, orT]
      cases orT y.1 true x <;> rfl
def consL : List (ByteArray × Tr) → Tr → Tr
  | [], r => r
  | x :: xs, r => .cons x.1 x.2 (consL xs r)
theorem consL_app (xs : List (ByteArray × Tr)) (x : ByteArray × Tr) (r : Tr) : consL (xs ++ [x]) r = consL xs (.cons x.1 x.2 r) := by
  induction xs with
  | nil => rfl
  | cons y ys ih => simp only [List.cons_append, consL, ih]
end Go.Proofs.YtnohmedccbogkaaGreatDoor

