import Derived.Test.YtnohmedccbogkaaGreatDoorDi19
import Derived.Test.YtnohmedccbogkaaGreatDoorDi14
import Derived.Test.YtnohmedccbogkaaGreatDoorDi11
import Derived.Test.YtnohmedccbogkaaGreatDoorDi0
namespace Go.Proofs.YtnohmedccbogkaaGreatDoor
open Go.RowKit
set_option linter.unusedVariables false
def heldR (v : Value) : Option (DataW Value × List MemPlace) := some (.held v, [])
def cpZ : List Value := [.int .i64 0, .slice none 0 0, .nilIface]
theorem cpZ_one : ∀ u ∈ cpZ, u.oneCell' = true := by intro u hu; simp [cpZ] at hu; rcases hu with rfl | rfl | rfl <;> rfl
theorem zeroC (w : World) : (zeroValue 283).run Tryz.prog w = .ok (.agg cpZ.toArray) w := by kernel_rfl
theorem sizeCp : (Tryz.prog.info? 283).map (·.size) = some 3 := by kernel_rfl
def woC (d : DV) (K : DK) (g mc : Nat) (root : Int) : List Value := [.slice d.sa K.n d.sc, .slice d.pa K.m d.pc, .map (some g), .map (some mc), .int .i64 root]
def PgV (P : Pg) (u : World) (i : Int) (xs : List Value) : Prop :=
  (P.ok i = true ∧ ∃ a c, xs = [.int .i64 (P.kd i), .slice a (P.bd i).length c, .nilIface] ∧ BsT u a (P.bd i).length c (P.bd i)) ∨ (P.ok i = false ∧ ∃ (k : Int) (a : Option Addr) (n c : Nat) (ad : Addr), xs = [.int .i64 k, .slice a n c, errV ad])
theorem PgV.keep {P : Pg} {u u' : World} {i : Int} {xs : List Value} (h : PgV P u i xs) (hk : KeepT 5 u u') : PgV P u' i xs := by
  rcases h with ⟨h1, a, c, e, hb⟩ | h
  · exact Or.inl ⟨h1, a, c, e, hb.keep hk⟩
  · exact Or.inr h
theorem PgV.form {P : Pg} {u : World} {i : Int} {xs : List Value} (h : PgV P u i xs) : ∃ (k : Int) (a : Option Addr) (n c : Nat) (e : Value), xs = [.int .i64 k, .slice a n c, e] ∧ (e = .nilIface ∨ ∃ ad, e = errV ad) := by
  rcases h with ⟨_, a, c, e, _⟩ | ⟨_, k, a, n, c, ad, e⟩
  · exact ⟨_, a, _, c, _, e, Or.inl rfl⟩
  · exact ⟨k, a, n, c, _, e, Or.inr ⟨ad, rfl⟩⟩
theorem pgv_src {P : Pg} {u : World} {i k : Int} {a : Option Addr} {n c : Nat} {e : Value} (h : PgV P u i [.int .i64 k, .slice a n c, e]) : (P.ok i = true ∧ ∃ a' c', Ending.returned (.tuple #[.int .i64 k, .slice a n c, e]) = .returned (.tuple #[.int .i64 (P.kd i), .slice a' (P.bd i).length c', .nilIface]) ∧ BsT u a' (P.bd i).length c' (P.bd i)) ∨ (P.ok i = false ∧ ∃ (k' : Int) (a' : Option Addr) (n' c' : Nat) (ad : Addr), Ending.returned (.tuple #[.int .i64 k, .slice a n c, e]) = .returned (.tuple #[.int .i64 k', .slice a' n' c', errV ad])) := by
  rcases h with ⟨p1, a', c', e1, hb⟩ | ⟨p1, k', a', n', c', ad, e1⟩
  · exact Or.inl ⟨p1, a', c', by rw [show (#[.int .i64 k, .slice a n c, e] : Array Value) = [.int .i64 k, .slice a n c, e].toArray from rfl, e1], hb⟩
  · exact Or.inr ⟨p1, k', a', n', c', ad, by rw [show (#[.int .i64 k, .slice a n c, e] : Array Value) = [.int .i64 k, .slice a n c, e].toArray from rfl, e1]⟩
theorem wp_mapUpdate_own {H : Type} {P : Program} (w : World) {o : Oper} {a : Act} {KK : Act → World → Prop} {Q : Exit → Act → World → Prop}
    (m x v : Operand) (t : TypeId) (hop : o.op = Op.mapUpdate t m x v) (k e : TypeId) (K : Maps.Keyed P k) (ht : P.underlying t = some (.map k e)) (R : Value → Option (DataW H × List MemPlace)) (b n : Nat) (D : DataW H)
    (hm : a.eval m = .map (some b)) (hown : w.ownsMap P k R b n D) (hn : n < maxLen) (key val : Value) (kl : Lit) (hx : a.eval x = key) (hv : a.eval v = val) (hkey : keyOf P k key = some kl)
    (d : DataW H) (ps : List MemPlace) (hval : R val = some (d, ps)) (hK : ∀ w', w'.ownsMap P k R b (n + 1) (D.put kl d) → w.grownBy w' (some b) → KK (a.put o.dst undef) w') : o.wp P a w KK Q := by
  obtain ⟨w', hrun, r1, r2⟩ := hown.update K ht hn hkey hval
  unfold Oper.wp
  simp [execOp, hop, hm, hx, hv, hrun, Result.andThen]
  exact hK w' r1 r2
structure CaQ (P : Pg) (u : World) (mc : Nat) (cl : List Int) (D : DataW Value) : Prop where
  own : u.ownsMap Tryz.prog 3 heldR mc cl.length D
  ok : SeenOk cl 4294967296
  has : ∀ i : Int, Maps.has D (.int .i64 i) = cl.contains i
  at_ : ∀ i ∈ cl, ∃ xs : List Value, D.atKey (.int .i64 i) (.held (.agg cpZ.toArray)) = .held (.agg xs.toArray) ∧ PgV P u i xs
theorem CaQ.keep {P : Pg} {u u' : World} {mc : Nat} {cl : List Int} {D : DataW Value} (h : CaQ P u mc cl D) (hm : u'.heap[mc]? = u.heap[mc]?) (hk : KeepT 5 u u') : CaQ P u' mc cl D :=
  ⟨by obtain ⟨es, clock, h1, r⟩ := h.own; exact ⟨es, clock, hm.trans h1, r⟩, h.ok, h.has, fun i hi => by obtain ⟨xs, h1, h2⟩ := h.at_ i hi; exact ⟨xs, h1, h2.keep hk⟩⟩
structure CS (P : Pg) (w1 : World) (gw mc : Nat) (cells : List Value) (u : World) : Prop where
  b : Below w1.heap.size w1 u
  k : Blk u 145 gw cells
  ca : ∃ cl D, CaQ P u mc cl D
theorem srcP_below {P : Pg} {w1 : World} {gw mc : Nat} {cells : List Value} {u w7 u' : World} {id : Int} {e : Ending} (hgm : w1.heap.size ≤ mc) (h : SrcP P (CS P w1 gw mc cells) (fun k => k = mc) u id e w7) (hu : Below w7.heap.size w7 u') : SrcP P (CS P w1 gw mc cells) (fun k => k = mc) u id e u' := by
  obtain ⟨⟨hb, hk, cl, D, hc⟩, hf, hor⟩ := h
  refine ⟨⟨hb.trans (hu.mono hb.size), hk.below hu, cl, D, hc.keep (hu.block mc hc.own.lt) (keepT_below hu)⟩, hf.trans (OnlyS.ofBelow hu), ?_⟩
  rcases hor with ⟨p1, a, c, he, hbs⟩ | h
  · exact Or.inl ⟨p1, a, c, he, hbs.keep (keepT_below hu)⟩
  · exact Or.inr h
theorem ca_put {P : Pg} {w1 u W6 w7 : World} {gw mc pb : Nat} {cells : List Value} {id k : Int} {a : Option Addr} {n c : Nat} {e : Value} {cl : List Int} {D : DataW Value} (hpb : pb = u.heap.size) (h0 : 0 ≤ id) (h1 : id < 4294967296) (hin : id ∉ cl) (hpg : gw ≠ pb) (hpm : mc ≠ pb) (hgm : w1.heap.size ≤ mc) (hpu : u.heap.size ≤ pb)
    (hS : CS P w1 gw mc cells W6) (hC : CaQ P W6 mc cl D) (hpv : PgV P W6 id [.int .i64 k, .slice a n c, e]) (hfr : OnlyS (fun k => k = mc) u W6) (hk : Blk W6 283 pb [.int .i64 k, .slice a n c, e])
    (D7 : w7.ownsMap Tryz.prog 3 heldR mc (cl.length + 1) (D.put (.int .i64 id) (.held (.agg #[.int .i64 k, .slice a n c, e])))) (g7 : W6.drew.grownBy w7 (some mc)) :
    SrcP P (CS P w1 gw mc cells) (fun k => k = mc) u id (.returned (.tuple #[.int .i64 k, .slice a n c, e])) w7 ∧ Blk w7 283 pb [.int .i64 k, .slice a n c, e] := by
  have ho : OnlyS (fun k => k = mc) W6 w7 := ⟨g7.os, g7.tape, g7.output, g7.size, fun i hi hn => g7.block i hi (fun e => hn (Option.some.inj e))⟩
  obtain ⟨es, clk, hm, _⟩ := hC.own
  have hgw : gw ≠ mc := fun e => by
    have := hS.k
    unfold Blk at this
    rw [e, hm] at this
    cases this
  have kt : KeepT 5 W6 w7 := keepT_S ho (fun k hk cs fr hh => by rw [hk, hm] at hh; cases hh)
  have hc7 : CaQ P w7 mc (id :: cl) (D.put (.int .i64 id) (.held (.agg #[.int .i64 k, .slice a n c, e]))) := by
    refine ⟨D7, hC.ok.cons h0 h1 hin, fun i => ?_, fun i hi => ?_⟩
    · by_cases hi : i = id
      · subst hi
        rw [Maps.has_put_same hC.own.isMap (by trivial)]
        simp
      · rw [Maps.has_put_other (by intro e; cases e; exact hi rfl), hC.has]
        simp [hi]
    · by_cases hie : i = id
      · subst hie
        exact ⟨_, Maps.atKey_put_same hC.own.isMap (by trivial) _ _, hpv.keep kt⟩
      · rcases List.mem_cons.1 hi with e | hi
        · exact absurd e hie
        · obtain ⟨xs, h2, h3⟩ := hC.at_ i hi
          exact ⟨xs, by rw [Maps.atKey_put_other (by intro e; cases e; exact hie rfl)]; exact h2, h3.keep kt⟩
  exact ⟨⟨⟨hS.b.trans (ho.below hS.b.size (fun k e => by omega)), hS.k.onlyS ho hgw, _, _, hc7⟩, hfr.trans ho, pgv_src (hpv.keep kt)⟩, hk.onlyS ho (fun e => hpm e.symm)⟩
theorem methWo (p : Option Addr) (w : World) : (Go.method 482 83 (.pointer p) "loop.example/s01906/impl.page").run Tryz.prog w = .ok (157, .pointer p) w := by kernel_rfl
set_option maxHeartbeats 4000000 in
set_option maxRecDepth 100000 in
theorem woPage_calls {eN eW : Addr} {d : DV} {K : DK} {g gw mc : Nat} {root : Int} {w1 : World} (h : RDisk w1 d K) (hok : dOk K) (hE : Errs w1 eN eW) (ho : w1.ownsMap Tryz.prog 3 (plainElem Tryz.prog 3) g K.m (lastD K.At K.m)) (hgm : w1.heap.size ≤ mc) (hgw : w1.heap.size ≤ gw) (id : Int) (u : World) (hS : CS (pgD K) w1 gw mc (woC d K g mc root) u) (h0 : 0 ≤ id) (h1 : id < 4294967296) :
    Calls Tryz.prog 157 #[.pointer (some ⟨gw, 0, none⟩), .int .i64 id] u (SrcP (pgD K) (CS (pgD K) w1 gw mc (woC d K g mc root)) (fun k => k = mc) u id) := by
  obtain ⟨cl, D, hC⟩ := hS.ca
  have hD := hC.own
  have hkey : keyOf Tryz.prog 3 (.int .i64 id) = some (.int .i64 id) := Maps.keyOf_int_mk Tryz.underlying3 (by have e1 : IntKind.i64.min = -9223372036854775808 := rfl; have e2 : IntKind.i64.max = 9223372036854775807 := rfl; simp only [Lit.wf, Bool.and_eq_true, decide_eq_true_eq]; omega)
  have c3 : u.cell? ⟨gw, 3, none⟩ = some (.map (some mc)) := hS.k.cell 3
  have hml : mc < u.heap.size := hD.lt
  have hgl : gw < u.heap.size := hS.k.lt
  have hzu := hS.b.size
  have hcl := hC.ok.le
  have HS : Hid _ := And.intro hS hC
  have hsee := hC.has id
  by_cases hin : id ∈ cl
  · obtain ⟨xs, hat, hpv⟩ := hC.at_ id hin
    obtain ⟨k, a, n, c, e, rfl, hek⟩ := hpv.form
    rw [List.contains_iff_mem.2 hin] at hsee
    have q1 : Below u.heap.size u (u.alloc (Obj.cells #[.int .i64 k, .slice a n c, e] 283)) := (Below.refl _ _).alloc (Nat.le_refl _) _
    have kP := blk_new u 283 #[.int .i64 k, .slice a n c, e]
    have hone : (#[.int .i64 k, .slice a n c, e] : Array Value).all (·.oneCell') = true := all_one (cs := [.int .i64 k, .slice a n c, e]) (by intro x hx; simp at hx; rcases hx with rfl | rfl | rfl; rfl; rfl; rcases hek with rfl | ⟨ad, rfl⟩ <;> rfl)
    have FIN : Hid (∀ u', Below (u.alloc (Obj.cells #[.int .i64 k, .slice a n c, e] 283)).heap.size (u.alloc (Obj.cells #[.int .i64 k, .slice a n c, e] 283)) u' → SrcP (pgD K) (CS (pgD K) w1 gw mc (woC d K g mc root)) (fun k => k = mc) u id (.returned (.tuple #[.int .i64 k, .slice a n c, e])) u') := fun u' hu => by
      have q1 : Below u.heap.size u u' := q1.trans (hu.mono q1.size)
      refine ⟨⟨hS.b.trans (q1.mono hzu), hS.k.below q1, cl, D, hC.keep (q1.block mc hml) (keepT_below q1)⟩, OnlyS.ofBelow q1, pgv_src (hpv.keep (keepT_below q1))⟩
    clear hpv hS hC
    go_enter Tryz.func157, Tryz.ntmps157
    go_upto_region 2 with (first | (at_lookup; refine wpList_lookup_own_ok _ rfl _ _ 143 rfl 3 283 lawI Tryz.underlying143 heldR (zeroC _) (.held (.agg cpZ.toArray)) [] rfl mc _ D rfl hD _ _ rfl hkey ?_; rw [hsee]; intro v ps hv; rw [hat] at hv; cases hv) | (refine wpList_storeNew rfl 283 _ _ rfl u cpZ.toArray #[.int .i64 k, .slice a n c, e] 283 rfl rfl sizeCp rfl hone ?_))
    change Code.wp _ _ _ _ (u.alloc (Obj.cells #[.int .i64 k, .slice a n c, e] 283))
    have b0 : (u.alloc (Obj.cells #[.int .i64 k, .slice a n c, e] 283)).cell? ⟨u.heap.size, 0, none⟩ = some (.int .i64 k) := Blk.cell kP 0
    have b1 : (u.alloc (Obj.cells #[.int .i64 k, .slice a n c, e] 283)).cell? ⟨u.heap.size, 1, none⟩ = some (.slice a n c) := Blk.cell kP 1
    have b2 : (u.alloc (Obj.cells #[.int .i64 k, .slice a n c, e] 283)).cell? ⟨u.heap.size, 2, none⟩ = some e := Blk.cell kP 2
    generalize u.alloc (Obj.cells #[.int .i64 k, .slice a n c, e] 283) = U1 at *
    generalize u.heap.size = pb at *
    clear c3 hD hat hsee kP
    go_upto_region 5 with fail
    go_quiet (fail)
    go_wp2_with fail
    refine bodyPost_ret (v := .tuple #[.int .i64 k, .slice a n c, e]) (by simp [results, Tryz.results157]) rfl (FIN.out _ (below_drewNT (Below.refl _ _) nq))
  · have hnc : cl.contains id = false := by rw [← Bool.not_eq_true, List.contains_iff_mem]; exact hin
    rw [hnc] at hsee
    have hat : D.atKey (.int .i64 id) (.held (.agg cpZ.toArray)) = .held (.agg cpZ.toArray) := Maps.atKey_of_not_has hsee _
    have q1 : Below u.heap.size u (u.alloc (Obj.cells cpZ.toArray 283)) := (Below.refl _ _).alloc (Nat.le_refl _) _
    have kP := blk_new u 283 cpZ.toArray
    have d1 : Below w1.heap.size w1 (u.alloc (Obj.cells cpZ.toArray 283)) := hS.b.trans (q1.mono hzu)
    have om1 : (u.alloc (Obj.cells cpZ.toArray 283)).ownsMap Tryz.prog 3 (plainElem Tryz.prog 3) g K.m (lastD K.At K.m) := by
      obtain ⟨es, clock, h1, r⟩ := ho
      exact ⟨es, clock, (d1.block g (Array.getElem?_eq_some_iff.1 h1).1).trans h1, r⟩
    have PC := page_calls eN eW d K id g _ (h.below d1) hok (hE.below d1) om1
    have kW1 := hS.k.below q1
    have hC1 := hC.keep (q1.block mc hml) (keepT_below q1)
    have H1 : Hid _ := And.intro d1 (And.intro kW1 (And.intro hC1 (And.intro kP q1)))
    have hclm : cl.length < maxLen := by unfold maxLen; omega
    have hIB := vL_isB h id
    clear hS hC om1 kW1 hC1 kP d1 q1
    go_enter Tryz.func157, Tryz.ntmps157
    go_upto_region 2 with (first | (at_lookup; refine wpList_lookup_own_ok _ rfl _ _ 143 rfl 3 283 lawI Tryz.underlying143 heldR (zeroC _) (.held (.agg cpZ.toArray)) [] rfl mc _ D rfl hD _ _ rfl hkey ?_; rw [hsee]; intro v ps hv; rw [hat] at hv; cases hv) | (refine wpList_storeNew rfl 283 _ _ rfl u cpZ.toArray cpZ.toArray 283 rfl rfl sizeCp rfl (all_one cpZ_one) ?_))
    change Code.wp _ _ _ _ (u.alloc (Obj.cells cpZ.toArray 283))
    generalize u.alloc (Obj.cells cpZ.toArray 283) = U1 at *
    obtain ⟨pb, hpb⟩ : ∃ x, x = u.heap.size := ⟨_, rfl⟩
    rw [← hpb] at H1 ⊢
    have hpm : mc ≠ pb := by omega
    have hpg : gw ≠ pb := by omega
    have hpu : u.heap.size ≤ pb := by omega
    have HPB : Hid (pb = u.heap.size) := hpb
    clear hpb
    have hpl : pb < U1.heap.size := Blk.lt H1.out.2.2.2.1
    have e0 : U1.cell? ⟨gw, 0, none⟩ = some (.slice d.sa K.n d.sc) := H1.out.2.1.cell 0
    have e1 : U1.cell? ⟨gw, 1, none⟩ = some (.slice d.pa K.m d.pc) := H1.out.2.1.cell 1
    have e2 : U1.cell? ⟨gw, 2, none⟩ = some (.map (some g)) := H1.out.2.1.cell 2
    clear c3 hD hat hsee
    go_wp2_with fail
    refine PC.mono ?_
    rintro e w3 ⟨b3, hor⟩
    have hpv : ∃ (k : Int) (a : Option Addr) (n c : Nat) (e' : Value), e = .returned (.tuple #[.int .i64 k, .slice a n c, e']) ∧ PgV (pgD K) w3 id [.int .i64 k, .slice a n c, e'] ∧ (e' = .nilIface ∨ ∃ ad, e' = errV ad) := by
      rcases hor with ⟨p1, a, c, he, hown⟩ | ⟨p1, p2, p3, he | he⟩
      · exact ⟨_, a, _, c, _, he, Or.inl ⟨p1, a, c, rfl, own_typed hown hIB⟩, Or.inl rfl⟩
      · exact ⟨0, none, 0, 0, _, he, Or.inr ⟨p1, 0, none, 0, 0, eW, rfl⟩, Or.inr ⟨_, rfl⟩⟩
      · exact ⟨0, none, 0, 0, _, he, Or.inr ⟨p1, 0, none, 0, 0, eN, rfl⟩, Or.inr ⟨_, rfl⟩⟩
    obtain ⟨k, a, n, c, e', rfl, hpv, h1c⟩ := hpv
    rcases h1c with rfl | ⟨ad, rfl⟩
    · have kP3 : Blk w3 283 pb cpZ := Blk.below H1.out.2.2.2.1 b3
      have p0 : w3.cell? ⟨pb, 0, none⟩ = some (.int .i64 0) := kP3.cell 0
      have f0 := kP3.free 0
      have k4 := kP3.set 0 (.int .i64 k)
      have p1 : (w3.setCell ⟨pb, 0, none⟩ (.int .i64 k)).cell? ⟨pb, 1, none⟩ = some (.slice none 0 0) := k4.cell 1
      have f1 := k4.free 1
      have k5 := k4.set 1 (.slice a n c)
      have p2 : ((w3.setCell ⟨pb, 0, none⟩ (.int .i64 k)).setCell ⟨pb, 1, none⟩ (.slice a n c)).cell? ⟨pb, 2, none⟩ = some .nilIface := k5.cell 2
      have f2 := k5.free 2
      have k6 : Blk (((w3.setCell ⟨pb, 0, none⟩ (.int .i64 k)).setCell ⟨pb, 1, none⟩ (.slice a n c)).setCell ⟨pb, 2, none⟩ .nilIface) 283 pb [.int .i64 k, .slice a n c, .nilIface] := k5.set 2 .nilIface
      have o6 := ((onlyB_setCell w3 pb 0 (.int .i64 k)).trans (onlyB_setCell _ pb 1 (.slice a n c))).trans (onlyB_setCell _ pb 2 .nilIface)
      have b3z := b3.size
      have S6 : CS (pgD K) w1 gw mc (woC d K g mc root) (((w3.setCell ⟨pb, 0, none⟩ (.int .i64 k)).setCell ⟨pb, 1, none⟩ (.slice a n c)).setCell ⟨pb, 2, none⟩ .nilIface) ∧ CaQ (pgD K) (((w3.setCell ⟨pb, 0, none⟩ (.int .i64 k)).setCell ⟨pb, 1, none⟩ (.slice a n c)).setCell ⟨pb, 2, none⟩ .nilIface) mc cl D := by
        have kt := (keepT_below b3).trans (keepT_only o6 kP3 (by decide : 283 ≠ 5))
        have hm6 := (o6.block mc (by omega) hpm).trans (b3.block mc (by omega))
        have hc6 := H1.out.2.2.1.keep hm6 kt
        exact ⟨⟨(H1.out.1.trans (b3.mono H1.out.1.size)).trans (o6.below (by omega) (by have := H1.out.1.size; omega)), (H1.out.2.1.below b3).only o6 hpg, cl, D, hc6⟩, hc6⟩
      have pv6 := hpv.keep (keepT_only o6 kP3 (by decide : 283 ≠ 5))
      have fr6 : OnlyS (fun k => k = mc) u (((w3.setCell ⟨pb, 0, none⟩ (.int .i64 k)).setCell ⟨pb, 1, none⟩ (.slice a n c)).setCell ⟨pb, 2, none⟩ .nilIface) := (OnlyS.ofBelow (by rw [← HPB.out]; exact H1.out.2.2.2.2.trans (b3.mono (by omega)))).transN (OnlyS.ofB o6) (fun k hk e => by omega)
      have H6 : Hid _ := And.intro S6 (And.intro pv6 (And.intro fr6 k6))
      clear PC b3 hor hpv k4 k5 k6 o6 S6 pv6 fr6 kP3 e0 e1 e2 H1
      go_upto_region 4 with fail
      generalize ((w3.setCell ⟨pb, 0, none⟩ (.int .i64 k)).setCell ⟨pb, 1, none⟩ (.slice a n c)).setCell ⟨pb, 2, none⟩ .nilIface = W6 at *
      clear p0 p1 p2 f0 f1 f2
      have dd : Below W6.heap.size W6 W6.drew := ⟨rfl, rfl, rfl, Nat.le_refl _, fun _ _ => rfl⟩
      have cs : W6.drew.cell? ⟨gw, 3, none⟩ = some (.map (some mc)) ∧ W6.drew.cell? ⟨pb, 0, none⟩ = some (.int .i64 k) ∧ W6.drew.cell? ⟨pb, 1, none⟩ = some (.slice a n c) ∧ W6.drew.cell? ⟨pb, 2, none⟩ = some .nilIface := ⟨Blk.cell H6.out.1.1.k 3, Blk.cell H6.out.2.2.2 0, Blk.cell H6.out.2.2.2 1, Blk.cell H6.out.2.2.2 2⟩
      refine wp_regionD (fun u => u.cell? ⟨gw, 3, none⟩ = some (.map (some mc)) ∧ u.cell? ⟨pb, 0, none⟩ = some (.int .i64 k) ∧ u.cell? ⟨pb, 1, none⟩ = some (.slice a n c) ∧ u.cell? ⟨pb, 2, none⟩ = some .nilIface) (fun k => decide (6 ≤ k)) (by kernel_rfl) ?_
      refine takeY 0 33 cs ?_
      simp only [Act.put, setL, List.set]
      refine takeY 1 34 cs ?_
      simp only [Act.put, setL, List.set]
      refine takeY 2 35 cs ?_
      simp only [Act.put, setL, List.set]
      refine takeY 3 36 cs ?_
      simp only [Act.put, setL, List.set]
      refine takeY 4 37 cs ?_
      simp only [Act.put, setL, List.set]
      refine takeY 5 38 cs ?_
      simp only [Act.put, setL, List.set]
      refine wpAnyD_one 6 (by kernel_rfl) rfl (fun KK hK => ?_)
      rw [if_pos (show Region.wanted _ _ = true from rfl)]
      refine wp_mapUpdate_own W6.drew _ _ _ 143 rfl 3 283 lawI Tryz.underlying143 heldR mc cl.length D rfl H6.out.1.2.own hclm (.int .i64 id) (.agg #[.int .i64 k, .slice a n c, .nilIface]) (.int .i64 id) rfl rfl hkey _ [] rfl ?_
      intro w7 D7 g7
      refine hK.out _ _ (fun h => absurd h (by decide)) ?_
      clear hK KK
      refine wpAnyD_done (by kernel_rfl) ?_ _
      have R7 : SrcP (pgD K) (CS (pgD K) w1 gw mc (woC d K g mc root)) (fun k => k = mc) u id (.returned (.tuple #[.int .i64 k, .slice a n c, .nilIface])) w7 ∧ Blk w7 283 pb [.int .i64 k, .slice a n c, .nilIface] := ca_put HPB.out h0 h1 hin hpg hpm hgm hpu H6.out.1.1 H6.out.1.2 H6.out.2.1 H6.out.2.2.1 H6.out.2.2.2 D7 g7
      have FIN : Hid (∀ u', Below w7.heap.size w7 u' → SrcP (pgD K) (CS (pgD K) w1 gw mc (woC d K g mc root)) (fun k => k = mc) u id (.returned (.tuple #[.int .i64 k, .slice a n c, .nilIface])) u') := fun u' hu => srcP_below hgm R7.1 hu
      have b0 : w7.cell? ⟨pb, 0, none⟩ = some (.int .i64 k) := R7.2.cell 0
      have b1 : w7.cell? ⟨pb, 1, none⟩ = some (.slice a n c) := R7.2.cell 1
      have b2 : w7.cell? ⟨pb, 2, none⟩ = some .nilIface := R7.2.cell 2
      clear D7 g7 R7 H6 cs dd
      go_upto_region 5 with fail
      go_quiet (fail)
      go_wp2_with fail
      refine bodyPost_ret (v := .tuple #[.int .i64 k, .slice a n c, .nilIface]) (by simp [results, Tryz.results157]) rfl (FIN.out _ (below_drewNT (Below.refl _ _) nq))
    · have kP3 : Blk w3 283 pb cpZ := Blk.below H1.out.2.2.2.1 b3
      have p0 : w3.cell? ⟨pb, 0, none⟩ = some (.int .i64 0) := kP3.cell 0
      have f0 := kP3.free 0
      have k4 := kP3.set 0 (.int .i64 k)
      have p1 : (w3.setCell ⟨pb, 0, none⟩ (.int .i64 k)).cell? ⟨pb, 1, none⟩ = some (.slice none 0 0) := k4.cell 1
      have f1 := k4.free 1
      have k5 := k4.set 1 (.slice a n c)
      have p2 : ((w3.setCell ⟨pb, 0, none⟩ (.int .i64 k)).setCell ⟨pb, 1, none⟩ (.slice a n c)).cell? ⟨pb, 2, none⟩ = some .nilIface := k5.cell 2
      have f2 := k5.free 2
      have k6 : Blk (((w3.setCell ⟨pb, 0, none⟩ (.int .i64 k)).setCell ⟨pb, 1, none⟩ (.slice a n c)).setCell ⟨pb, 2, none⟩ (errV ad)) 283 pb [.int .i64 k, .slice a n c, (errV ad)] := k5.set 2 (errV ad)
      have o6 := ((onlyB_setCell w3 pb 0 (.int .i64 k)).trans (onlyB_setCell _ pb 1 (.slice a n c))).trans (onlyB_setCell _ pb 2 (errV ad))
      have b3z := b3.size
      have S6 : CS (pgD K) w1 gw mc (woC d K g mc root) (((w3.setCell ⟨pb, 0, none⟩ (.int .i64 k)).setCell ⟨pb, 1, none⟩ (.slice a n c)).setCell ⟨pb, 2, none⟩ (errV ad)) ∧ CaQ (pgD K) (((w3.setCell ⟨pb, 0, none⟩ (.int .i64 k)).setCell ⟨pb, 1, none⟩ (.slice a n c)).setCell ⟨pb, 2, none⟩ (errV ad)) mc cl D := by
        have kt := (keepT_below b3).trans (keepT_only o6 kP3 (by decide : 283 ≠ 5))
        have hm6 := (o6.block mc (by omega) hpm).trans (b3.block mc (by omega))
        have hc6 := H1.out.2.2.1.keep hm6 kt
        exact ⟨⟨(H1.out.1.trans (b3.mono H1.out.1.size)).trans (o6.below (by omega) (by have := H1.out.1.size; omega)), (H1.out.2.1.below b3).only o6 hpg, cl, D, hc6⟩, hc6⟩
      have pv6 := hpv.keep (keepT_only o6 kP3 (by decide : 283 ≠ 5))
      have fr6 : OnlyS (fun k => k = mc) u (((w3.setCell ⟨pb, 0, none⟩ (.int .i64 k)).setCell ⟨pb, 1, none⟩ (.slice a n c)).setCell ⟨pb, 2, none⟩ (errV ad)) := (OnlyS.ofBelow (by rw [← HPB.out]; exact H1.out.2.2.2.2.trans (b3.mono (by omega)))).transN (OnlyS.ofB o6) (fun k hk e => by omega)
      have H6 : Hid _ := And.intro S6 (And.intro pv6 (And.intro fr6 k6))
      clear PC b3 hor hpv k4 k5 k6 o6 S6 pv6 fr6 kP3 e0 e1 e2 H1
      go_upto_region 4 with fail
      generalize ((w3.setCell ⟨pb, 0, none⟩ (.int .i64 k)).setCell ⟨pb, 1, none⟩ (.slice a n c)).setCell ⟨pb, 2, none⟩ (errV ad) = W6 at *
      clear p0 p1 p2 f0 f1 f2
      have dd : Below W6.heap.size W6 W6.drew := ⟨rfl, rfl, rfl, Nat.le_refl _, fun _ _ => rfl⟩
      have cs : W6.drew.cell? ⟨gw, 3, none⟩ = some (.map (some mc)) ∧ W6.drew.cell? ⟨pb, 0, none⟩ = some (.int .i64 k) ∧ W6.drew.cell? ⟨pb, 1, none⟩ = some (.slice a n c) ∧ W6.drew.cell? ⟨pb, 2, none⟩ = some (errV ad) := ⟨Blk.cell H6.out.1.1.k 3, Blk.cell H6.out.2.2.2 0, Blk.cell H6.out.2.2.2 1, Blk.cell H6.out.2.2.2 2⟩
      refine wp_regionD (fun u => u.cell? ⟨gw, 3, none⟩ = some (.map (some mc)) ∧ u.cell? ⟨pb, 0, none⟩ = some (.int .i64 k) ∧ u.cell? ⟨pb, 1, none⟩ = some (.slice a n c) ∧ u.cell? ⟨pb, 2, none⟩ = some (errV ad)) (fun k => decide (6 ≤ k)) (by kernel_rfl) ?_
      refine takeY 0 33 cs ?_
      simp only [Act.put, setL, List.set]
      refine takeY 1 34 cs ?_
      simp only [Act.put, setL, List.set]
      refine takeY 2 35 cs ?_
      simp only [Act.put, setL, List.set]
      refine takeY 3 36 cs ?_
      simp only [Act.put, setL, List.set]
      refine takeY 4 37 cs ?_
      simp only [Act.put, setL, List.set]
      refine takeY 5 38 cs ?_
      simp only [Act.put, setL, List.set]
      refine wpAnyD_one 6 (by kernel_rfl) rfl (fun KK hK => ?_)
      rw [if_pos (show Region.wanted _ _ = true from rfl)]
      refine wp_mapUpdate_own W6.drew _ _ _ 143 rfl 3 283 lawI Tryz.underlying143 heldR mc cl.length D rfl H6.out.1.2.own hclm (.int .i64 id) (.agg #[.int .i64 k, .slice a n c, (errV ad)]) (.int .i64 id) rfl rfl hkey _ [] rfl ?_
      intro w7 D7 g7
      refine hK.out _ _ (fun h => absurd h (by decide)) ?_
      clear hK KK
      refine wpAnyD_done (by kernel_rfl) ?_ _
      have R7 : SrcP (pgD K) (CS (pgD K) w1 gw mc (woC d K g mc root)) (fun k => k = mc) u id (.returned (.tuple #[.int .i64 k, .slice a n c, (errV ad)])) w7 ∧ Blk w7 283 pb [.int .i64 k, .slice a n c, (errV ad)] := ca_put HPB.out h0 h1 hin hpg hpm hgm hpu H6.out.1.1 H6.out.1.2 H6.out.2.1 H6.out.2.2.1 H6.out.2.2.2 D7 g7
      have FIN : Hid (∀ u', Below w7.heap.size w7 u' → SrcP (pgD K) (CS (pgD K) w1 gw mc (woC d K g mc root)) (fun k => k = mc) u id (.returned (.tuple #[.int .i64 k, .slice a n c, (errV ad)])) u') := fun u' hu => srcP_below hgm R7.1 hu
      have b0 : w7.cell? ⟨pb, 0, none⟩ = some (.int .i64 k) := R7.2.cell 0
      have b1 : w7.cell? ⟨pb, 1, none⟩ = some (.slice a n c) := R7.2.cell 1
      have b2 : w7.cell? ⟨pb, 2, none⟩ = some (errV ad) := R7.2.cell 2
      clear D7 g7 R7 H6 cs dd
      go_upto_region 5 with fail
      go_quiet (fail)
      go_wp2_with fail
      refine bodyPost_ret (v := .tuple #[.int .i64 k, .slice a n c, (errV ad)]) (by simp [results, Tryz.results157]) rfl (FIN.out _ (below_drewNT (Below.refl _ _) nq))
end Go.Proofs.YtnohmedccbogkaaGreatDoor

namespace Go.Proofs.YtnohmedccbogkaaGreatDoor
open Go.RowKit
set_option linter.unusedVariables false
def scS (fr : ByteArray) (most : Int) (xs : List (ByteArray × ByteArray)) (e : ByteArray × ByteArray) : List (ByteArray × ByteArray) := if sle fr e.1 = true ∧ (xs.length : Int) < most then xs ++ [e] else xs
def scL (fr : ByteArray) (most : Int) (xs es : List (ByteArray × ByteArray)) : List (ByteArray × ByteArray) := es.foldl (scS fr most) xs
theorem scL_app (fr : ByteArray) (most : Int) (xs es fs : List (ByteArray × ByteArray)) : scL fr most xs (es ++ fs) = scL fr most (scL fr most xs es) fs := List.foldl_append
theorem scL_low {fr : ByteArray} {most : Int} : ∀ {es xs : List (ByteArray × ByteArray)}, (∀ e ∈ es, sl e.1 fr = true) → scL fr most xs es = xs
  | [], xs, _ => rfl
  | e :: es, xs, h => by
    have h1 : scS fr most xs e = xs := by
      unfold scS
      rw [if_neg]
      intro hh
      have := h e (by simp)
      have h2 := hh.1
      unfold sle at h2
      rw [this] at h2
      exact absurd h2 (by decide)
    show scL fr most (scS fr most xs e) es = xs
    rw [h1]
    exact scL_low (fun x hx => h x (by simp [hx]))
theorem scL_most {fr : ByteArray} {most : Int} : ∀ {es xs : List (ByteArray × ByteArray)}, most ≤ (xs.length : Int) → scL fr most xs es = xs
  | [], xs, _ => rfl
  | e :: es, xs, h => by
    have h1 : scS fr most xs e = xs := by unfold scS; rw [if_neg]; omega
    show scL fr most (scS fr most xs e) es = xs
    rw [h1]
    exact scL_most h
theorem scS_len (fr : ByteArray) (most : Int) (xs : List (ByteArray × ByteArray)) (e : ByteArray × ByteArray) : (scS fr most xs e).length ≤ xs.length + 1 := by unfold scS; split <;> simp
theorem scL_len (fr : ByteArray) (most : Int) : ∀ (es xs : List (ByteArray × ByteArray)), (scL fr most xs es).length ≤ xs.length + es.length
  | [], xs => by simp [scL]
  | e :: es, xs => by
    have h1 := scS_len fr most xs e
    have h2 := scL_len fr most es (scS fr most xs e)
    show (scL fr most (scS fr most xs e) es).length ≤ _
    simp only [List.length_cons]
    omega
theorem keys_ents : ∀ t : Tr, keysT t = (entsT t).map (·.1)
  | .leaf _ _ => rfl
  | .node _ ks => keys_ents ks
  | .nil => rfl
  | .cons _ t ks => by rw [keysT, entsT, List.map_append, keys_ents t, keys_ents ks]
theorem scL_take {fr : ByteArray} {most : Int} {xs es : List (ByteArray × ByteArray)} {j : Nat} (hj : j < es.length) : scL fr most xs (es.take (j + 1)) = scS fr most (scL fr most xs (es.take j)) (es.getD j e0) := by
  rw [List.take_succ_eq_append_getElem hj, scL_app]
  simp [scL, List.getD, hj]
structure GaQ (S : World → Prop) (X : Nat → Prop) (B : Nat) (w : World) (a : Option Addr) (ys : List (ByteArray × ByteArray)) (a' : Option Addr) (c' : Nat) (w' : World) : Prop where
  own : ORow 93 2 B w' a' ys.length c' (enF ys)
  fr : OnlyS (fun k => X k ∨ k ∈ rb a) w w'
  low : ∀ k ∈ rb a', k < w.heap.size → k ∈ rb a
  src : S w'
variable {S : World → Prop} {X : Nat → Prop} {B0 ty fn : Nat} {v : Value} {P : Pg}
theorem GaQ.below (HS : Src P B0 ty fn v S X) {B : Nat} {w wr wr' : World} {a a' : Option Addr} {ys : List (ByteArray × ByteArray)} {c' : Nat} (h : GaQ S X B w a ys a' c' wr) (hb : Below wr.heap.size wr wr') (hB0 : B0 ≤ wr.heap.size) : GaQ S X B w a ys a' c' wr' :=
  ⟨h.own.below hb, h.fr.trans (OnlyS.ofBelow hb), h.low, HS.keep _ _ h.src (hb.mono hB0) (keepT_below hb)⟩
theorem GaQ.trans {B : Nat} {w wr w' : World} {a a' a2 : Option Addr} {ys zs : List (ByteArray × ByteArray)} {c' c2 : Nat} (h : GaQ S X B w a ys a' c' wr) (h2 : GaQ S X B wr a' zs a2 c2 w') : GaQ S X B w a zs a2 c2 w' :=
  ⟨h2.own, h.fr.transN h2.fr (fun k hk e => by rcases e with e | e; exact Or.inl e; exact Or.inr (h.low k e hk)), fun k hk hkl => h.low k (h2.low k hk (by have := h.fr.size; omega)) hkl, h2.src⟩
theorem GaQ.one (HS : Src P B0 ty fn v S X) {B : Nat} {w wr w' : World} {a a' : Option Addr} {ys : List (ByteArray × ByteArray)} {c' g c8 : Nat} {x : ByteArray × ByteArray} {cs : Array Value} (h : GaQ S X B w a ys a' c' wr) (hB : B0 ≤ B) (hBw : B ≤ wr.heap.size) (ho : ORow 93 2 B w' (some ⟨g, 0, none⟩) (ys.length + 1) c8 (updR (enF ys) ys.length [.string x.1, .string x.2]))
    (hg : (wr.alloc (.cells cs 93)).grownBy w' (Value.slice a' ys.length c').ownBlock) (hat : a' = some ⟨g, 0, none⟩ ∨ wr.heap.size < g) : GaQ S X B w a (ys ++ [x]) (some ⟨g, 0, none⟩) c8 w' := by
  have q : Below wr.heap.size wr (wr.alloc (.cells cs 93)) := (Below.refl _ _).alloc (Nat.le_refl _) _
  have hz := h.fr.size
  have ow : OnlyS (fun k => k ∈ rb a') wr w' := (OnlyS.ofBelow q).transN (OnlyS.ofGrown hg) (fun k _ e => rb_own k e)
  refine ⟨?_, h.fr.transN ow (fun k hk e => Or.inr (h.low k e hk)), ?_, HS.keep _ _ h.src (ow.below (by omega) (fun k e => by have := (orow_rb_lt h.own k e).1; omega)) ((keepT_below q).trans (keepT_grown (own_below h.own q) hg (by decide)))⟩
  · rw [List.length_append]
    exact ho.congr (fun j hj => enF_app _ x j hj)
  · intro k hkr hkl
    simp [rb] at hkr
    subst hkr
    rcases hat with e | e
    · exact h.low _ (by rw [e]; simp [rb]) hkl
    · omega
theorem GaQ.start (HS : Src P B0 ty fn v S X) {B : Nat} {w w4 w6 : World} {a : Option Addr} {xs : List (ByteArray × ByteArray)} {c : Nat} {cu : Array Value} (hB0 : B0 ≤ B) (hB : B ≤ w.heap.size) (ho : ORow 93 2 B w a xs.length c (enF xs)) (s4 : S w4) (o4 : OnlyS X w w4) (o6 : OnlyB w4.heap.size (w4.alloc (.cells cu 162)) w6) : GaQ S X B w a xs a c w6 := by
  have q5 : Below w4.heap.size w4 (w4.alloc (.cells cu 162)) := (Below.refl _ _).alloc (Nat.le_refl _) _
  have kC : Blk (w4.alloc (.cells cu 162)) 162 w4.heap.size cu.toList := blk_new w4 162 cu
  have hz4 := o4.size
  have hz5 := q5.size
  have o46 : OnlyS X w w6 := (o4.trans (OnlyS.ofBelow q5)).transN (OnlyS.ofB o6) (fun k hk e => by omega)
  refine ⟨orow_rb ho (fun k hk => o46.block k (orow_rb_lt ho k hk).2 (fun e => by have := HS.low k e; have := (orow_rb_lt ho k hk).1; omega)), o46.mono (fun k _ e => Or.inl e), fun k hk _ => hk, ?_⟩
  have s5 : S (w4.alloc (.cells cu 162)) := HS.keep _ _ s4 (q5.mono (by omega)) (keepT_below q5)
  exact HS.keep _ _ s5 ((OnlyS.ofB o6).below (by omega) (fun k e => by omega)) (keepT_only o6 kC (by decide))
theorem wpList_appRowL {w1 : World} {ops : Array Oper} {rest : List Oper} {o : Oper} {act : Act} {Q : Exit → Act → World → Prop} (hgd : o.guard = none) (so xo : Operand) {t e s bytes : Nat} {z : Value} (T : ElT t e s z bytes)
    (ho : o.op = .call { callee := .builtin .append, args := #[so, xo], argTypes := #[t, t] })
    (B : Nat) (a : Option Addr) (n c : Nat) (f : Nat → List Value) (hs : act.eval so = .slice a n c) (hown : ORow e s B w1 a n c f) (x : List Value) (hxl : x.length = s) (hx1 : ∀ u ∈ x, u.oneCell' = true)
    (hx : act.eval xo = .slice (some ⟨w1.heap.size, 0, none⟩) 1 1) (hn : n ≤ 1048576) (hbt : bytes ≤ 1048576) (hB : B ≤ w1.heap.size)
    (hh : ∀ g c' w', ORow e s B w' (some ⟨g, 0, none⟩) (n + 1) c' (updR f n x) → Below B w1 w' → (w1.alloc (.cells x.toArray e)).grownBy w' (Value.slice a n c).ownBlock → (a = some ⟨g, 0, none⟩ ∨ w1.heap.size < g) → wpList Tryz.prog ops Q rest (act.put o.dst (.slice (some ⟨g, 0, none⟩) (n + 1) c')) w') :
    wpList Tryz.prog ops Q (o :: rest) act (w1.alloc (.cells x.toArray e)) :=
  wpList_plain hgd fun _ hK => wp_appRowL so xo T ho B a n c f hs hown x hxl hx1 hx hn hbt hB fun g c' w' h1 h2 h3 h4 => hK _ _ (hh g c' w' h1 h2 h3 h4)
def GaC (P : Pg) (S : World → Prop) (X : Nat → Prop) (B0 : Nat) (v : Value) (fr : ByteArray) (most : Int) (f : Nat) : Prop := ∀ (steps id : Int) (st st' : St) (t : Tr) (xs : List (ByteArray × ByteArray)) (a : Option Addr) (c B : Nat) (w : World), rdT P f steps st id = some (t, st') → full t true → inn t true → S w → ORow 93 2 B w a xs.length c (enF xs) → B0 ≤ B → B ≤ w.heap.size → xs.length + (entsT t).length ≤ 1048576 →
    Calls Tryz.prog 93 #[v, .slice a xs.length c, .int .i64 id, .string fr, .int .i64 most] w fun e w' => ∃ a' c', e = .returned (.slice a' (scL fr most xs (entsT t)).length c') ∧ GaQ S X B w a (scL fr most xs (entsT t)) a' c' w'
end Go.Proofs.YtnohmedccbogkaaGreatDoor

namespace Go.Proofs.YtnohmedccbogkaaGreatDoor
open Go.RowKit
set_option linter.unusedVariables false
variable {S : World → Prop} {X : Nat → Prop} {B0 ty gw : Nat} {P : Pg}
set_option maxHeartbeats 4000000 in
set_option maxRecDepth 100000 in
theorem ga_leaf (HS : Src P B0 ty 157 (.pointer (some ⟨gw, 0, none⟩)) S X) (fr : ByteArray) (most id : Int) (hok : P.ok id = true) (hkd : P.kd id = 2) (h0 : 0 ≤ id) (h1 : id < 4294967296) (hbl : (P.bd id).length ≤ 1048576) (es : List (ByteArray × ByteArray)) (hlf : lfP (P.bd id) = some es)
    (xs : List (ByteArray × ByteArray)) (a : Option Addr) (c B : Nat) (w : World) (hS : S w) (ho : ORow 93 2 B w a xs.length c (enF xs)) (hB0 : B0 ≤ B) (hB : B ≤ w.heap.size) (hlen : xs.length + es.length ≤ 1048576) (hne : es ≠ []) :
    Calls Tryz.prog 93 #[.pointer (some ⟨gw, 0, none⟩), .slice a xs.length c, .int .i64 id, .string fr, .int .i64 most] w fun e w' => ∃ a' c', e = .returned (.slice a' (scL fr most xs es).length c') ∧ GaQ S X B w a (scL fr most xs es) a' c' w' := by
  have PG := HS.page w id hS h0 h1
  have H0 : Hid _ := And.intro ho (And.intro hlf hne)
  have hxl : xs.length ≤ 1048576 := by omega
  clear ho hlf hS hne
  go_enter Tryz.func93, Tryz.ntmps93
  go_wp2_with fail
  refine PG.mono ?_
  clear PG
  rintro e w4 ⟨s4, o4, ⟨_, ab, cb, rfl, hbs⟩ | ⟨hno, _⟩⟩
  rotate_left
  · rw [hok] at hno; cases hno
  rw [hkd]
  have hb1 := built_cu ab (P.bd id).length cb
  have q5 : Below w4.heap.size w4 (w4.alloc (.cells #[.slice ab (P.bd id).length cb] 162)) := (Below.refl _ _).alloc (Nat.le_refl _) _
  have kC := blk_new w4 162 #[.slice ab (P.bd id).length cb]
  have cur5 : Cur (w4.alloc (.cells #[.slice ab (P.bd id).length cb] 162)) w4.heap.size w4.heap.size (P.bd id) := ⟨ab, (P.bd id).length, cb, ⟨kC, hbs.bs.below q5, hbs.bs.blt⟩⟩
  have EC := entries_calls w4.heap.size w4.heap.size (P.bd id) _ cur5 q5.size hbl
  have hz4 := o4.size
  have H4 : Hid _ := And.intro s4 o4
  have z5 : Hid ((w4.alloc (.cells #[.slice ab (P.bd id).length cb] 162)).heap.size = w4.heap.size + 1) := by show (w4.alloc (.cells #[.slice ab (P.bd id).length cb] 162)).heap.size = w4.heap.size + 1; simp
  clear s4 o4 hbs q5 kC cur5
  go_wp2_with fail
  refine EC.mono ?_
  rintro e w6 ⟨o6, ⟨es', ae, ce, hlf', _, rfl, hr⟩ | ⟨hno, _⟩⟩
  rotate_left
  · exfalso
    rw [H0.out.2.1] at hno
    rcases hno with h | h
    · cases h
    · exact H0.out.2.2 (Option.some.inj h)
  rw [H0.out.2.1] at hlf'
  obtain rfl := Option.some.inj hlf'
  have G6 := GaQ.start HS hB0 hB H0.out.1 H4.out.1 H4.out.2 o6
  have hal := orow_rb_lt hr
  have hz6 : w4.heap.size + 1 ≤ w6.heap.size := by have := o6.size; have := z5.out; omega
  have H6 : Hid _ := And.intro G6 (And.intro hr (And.intro hal (orow_rb_lt H0.out.1)))
  clear EC o6 hlf' G6 hr hal hb1
  go_wp2_with fail
  go_loopw [1, 36] (fun s1 s36 wr => ∃ (j : Nat) (a' : Option Addr) (c' : Nat), s1 = .slice a' (scL fr most xs (es.take j)).length c' ∧ s36 = .int .i64 (j : Nat) ∧ j ≤ es.length ∧ GaQ S X B w a (scL fr most xs (es.take j)) a' c' wr ∧ (∀ k ∈ rb a', k < w6.heap.size → k ∈ rb a) ∧ ORow 93 2 0 wr ae es.length ce (enF es) ∧ w6.heap.size ≤ wr.heap.size) (fun _ s _ => es.length - (intOf s).toNat)
  case atStart => exact ⟨0, a, c, rfl, rfl, Nat.zero_le _, H6.out.1, fun k hk _ => hk, H6.out.2.1.mono (Nat.zero_le _), Nat.le_refl _⟩
  case round =>
    obtain ⟨j, a', c', rfl, rfl, hj, hQ, hlow, hr, hz6R⟩ := hrel
    obtain ⟨wR, hwX⟩ : ∃ wX, wX = wr := ⟨_, rfl⟩
    subst hwX
    have hwz := hQ.fr.size
    have hyl := scL_len fr most (es.take j) xs
    rw [List.length_take] at hyl
    by_cases hlt : j < es.length
    · have hlt' : (j : Int) < (es.length : Int) := by omega
      have HTK : Hid _ := scL_take (fr := fr) (most := most) (xs := xs) hlt
      obtain ⟨b, rfl, hbB, hbl⟩ := orow_at hr (by omega)
      have hcl := fun m v hv => (hr.reads (enF_ok es _)).cells j hlt m v hv
      rw [show enF es j = [.string (es.getD j e0).1, .string (es.getD j e0).2] from rfl] at hcl
      generalize es.getD j e0 = en at *
      obtain ⟨ky, vl⟩ := en
      have cc0 : wR.cell? ⟨b, j * 2, none⟩ = some (.string ky) := by have := hcl 0 _ rfl; simpa using this
      have cc1 : wR.cell? ⟨b, j * 2 + 1, none⟩ = some (.string vl) := by have := hcl 1 _ rfl; simpa using this
      generalize hys : scL fr most xs (es.take j) = ys at *
      clear hys
      have kE := blk_new wR 93 #[.string ky, .string vl]
      have q2 : Below wR.heap.size wR (wR.alloc (Obj.cells #[.string ky, .string vl] 93)) := (Below.refl _ _).alloc (Nat.le_refl _) _
      have hyl2 : ys.length ≤ 1048576 := by omega
      have Q2 := hQ.below HS q2 (by omega)
      have r2 := hr.below q2
      have HB : Hid _ := And.intro Q2 (And.intro hlow (And.intro r2 (Nat.le_trans hz6R q2.size)))
      have z2 : B ≤ (wR.alloc (Obj.cells #[.string ky, .string vl] 93)).heap.size := by have := q2.size; omega
      clear hcl hQ hlow hr Q2 r2 q2
      go_upto_region 7 with (first | (refine wpList_storeNew rfl 93 _ _ rfl wR #[.string (strOfNums []), .string (strOfNums [])] #[.string ky, .string vl] 93 rfl rfl sizeEn rfl rfl ?_))
      change Code.wp _ _ _ _ (wR.alloc (Obj.cells #[.string ky, .string vl] 93))
      generalize wR.alloc (Obj.cells #[.string ky, .string vl] 93) = W2 at *
      generalize heb : wR.heap.size = eb at *
      have c1 : W2.cell? ⟨eb, 0, none⟩ = some (.string ky) := kE.cell 0
      have kE' : Blk W2 93 eb [.string ky, .string vl] := kE
      clear kE cc0 cc1
      cases d1 : sle fr ky with
      | false =>
        have d1' : Op.bytesLess ky.toList fr.toList = true := by unfold sle sl at d1; simpa using d1
        have HF : Hid (scS fr most ys (ky, vl) = ys) := by show scS fr most ys (ky, vl) = ys; unfold scS; rw [if_neg (fun h => by rw [d1] at h; exact absurd h.1 (by decide))]
        clear d1
        go_wp2_with fail
        go_roundw
        case rel => exact ⟨j + 1, a', c', by rw [HTK.out, HF.out], by go_num, by omega, by rw [HTK.out, HF.out]; exact HB.out.1, HB.out.2.1, HB.out.2.2.1, HB.out.2.2.2⟩
        case measure => simp [intOf]; omega
      | true =>
        have d1' : Op.bytesLess ky.toList fr.toList = false := by unfold sle sl at d1; simpa using d1
        by_cases hm : (ys.length : Int) < most
        · have HF : Hid (scS fr most ys (ky, vl) = ys ++ [(ky, vl)]) := by show scS fr most ys (ky, vl) = _; unfold scS; rw [if_pos ⟨d1, hm⟩]
          have hrow := HB.out.1.own
          clear d1
          go_wp2_with (first | (refine wpList_load_row rfl 93 _ rfl eb rfl 93 #[.string ky, .string vl] (0, 0) _ kE' Tryz.underlying93 rfl sizeEn ?_) | (refine wpList_appRowL rfl _ _ elEn rfl B a' _ c' (enF ys) rfl hrow [.string ky, .string vl] rfl (by simp [Value.oneCell']) rfl (by omega) (by omega) z2 ?_; rintro b8 c8 w8 o8 bl8 g8 at8))
          have G8 := HB.out.1.one HS (x := (ky, vl)) hB0 z2 o8 g8 at8
          have ow : OnlyS (fun k => k ∈ rb a') W2 w8 := (OnlyS.ofBelow ((Below.refl _ _).alloc (Nat.le_refl _) _)).transN (OnlyS.ofGrown g8) (fun k _ e => rb_own k e)
          have hb6 := H6.out.2.2.1 b (by simp [rb])
          have z9 := z5.out
          refine ⟨⟨j + 1, some ⟨b8, 0, none⟩, c8, by rw [HTK.out, HF.out, List.length_append]; rfl, by go_num, by omega, by rw [HTK.out, HF.out]; exact G8, ?_, ?_, Nat.le_trans HB.out.2.2.2 ow.size⟩, by simp [intOf]; omega⟩
          · intro k hk hkl
            simp [rb] at hk
            subst hk
            have h9 := HB.out.2.2.2
            rcases at8 with e | e
            · exact HB.out.2.1 _ (by rw [e]; simp [rb]) hkl
            · omega
          · exact orow_rb HB.out.2.2.1 (fun k hk => ow.block k (orow_rb_lt HB.out.2.2.1 k hk).2 (fun e => by
              simp [rb] at hk
              subst hk
              have h3 := (H6.out.2.2.2 _ (HB.out.2.1 _ e hb6.2)).2
              omega))
        · have hm' : ¬ (ys.length : Int) < most := hm
          have HF : Hid (scS fr most ys (ky, vl) = ys) := by show scS fr most ys (ky, vl) = ys; unfold scS; rw [if_neg (fun h => hm h.2)]
          clear d1
          go_wp2_with fail
          go_roundw
          case rel => exact ⟨j + 1, a', c', by rw [HTK.out, HF.out], by go_num, by omega, by rw [HTK.out, HF.out]; exact HB.out.1, HB.out.2.1, HB.out.2.2.1, HB.out.2.2.2⟩
          case measure => simp [intOf]; omega
    · have hje : j = es.length := by omega
      have hnl : ¬ (j : Int) < (es.length : Int) := by omega
      have hTk : es.take j = es := by rw [hje, List.take_length]
      rw [hTk] at hQ ⊢
      have FIN : Hid _ := hQ
      clear hQ hTk hje hr
      go_wp2_with fail
      go_ret
      exact ⟨a', c', rfl, FIN.out⟩
end Go.Proofs.YtnohmedccbogkaaGreatDoor

namespace Go.Proofs.YtnohmedccbogkaaGreatDoor
open Go.RowKit
set_option linter.unusedVariables false
variable {S : World → Prop} {X : Nat → Prop} {B0 ty gw N : Nat} {P : Pg}
theorem leq_is (a b : ByteArray) : (Op.bytesLess a.toList b.toList || a.toList == b.toList) = sle a b := by
  have h := gtr_is a b
  show _ = !sl b a
  rw [← h]
  cases Op.bytesLess a.toList b.toList <;> cases (a.toList == b.toList) <;> rfl
theorem rdK_hd2 {r : St → Int → Option (Tr × St)} {s : ByteArray} {id : Int} {ls : List (ByteArray × Int)} {st st' : St} {t : Tr} (h : rdK r ((s, id) :: ls) st = some (t, st')) : hdS t = some s := by
  rw [rdK] at h
  obtain ⟨x, h1, h2⟩ := Option.bind_eq_some_iff.1 h
  obtain ⟨y, h3, h4⟩ := Option.bind_eq_some_iff.1 h2
  cases h4
  rfl
set_option maxHeartbeats 4000000 in
set_option maxRecDepth 100000 in
theorem ga_node (HS : Src P B0 ty 157 (.pointer (some ⟨gw, 0, none⟩)) S X) (fr : ByteArray) (most id steps : Int) (f : Nat) (IH : GaC P S X B0 (.pointer (some ⟨gw, 0, none⟩)) fr most f) (hok : P.ok id = true) (hkd : P.kd id = 3) (h0 : 0 ≤ id) (h1 : id < 4294967296) (hbl : (P.bd id).length ≤ 1048576) (ls : List (ByteArray × Int)) (hin : inP (P.bd id) = some ls)
    (st st' : St) (ks : Tr) (hrd : rdK (rdT P f steps) ls st = some (ks, st')) (hfu : full ks true) (hinn : inn ks true)
    (xs : List (ByteArray × ByteArray)) (a : Option Addr) (c B : Nat) (w : World) (hS : S w) (ho : ORow 93 2 B w a xs.length c (enF xs)) (hB0 : B0 ≤ B) (hB : B ≤ w.heap.size) (hlen : xs.length + (entsT ks).length ≤ 1048576) :
    Calls Tryz.prog 93 #[.pointer (some ⟨gw, 0, none⟩), .slice a xs.length c, .int .i64 id, .string fr, .int .i64 most] w fun e w' => ∃ a' c', e = .returned (.slice a' (scL fr most xs (entsT ks)).length c') ∧ GaQ S X B w a (scL fr most xs (entsT ks)) a' c' w' := by
  have PG := HS.page w id hS h0 h1
  have H0 : Hid _ := And.intro ho (And.intro hin (And.intro hrd (And.intro hfu hinn)))
  have hxl : xs.length ≤ 1048576 := by omega
  have hlln := inP_len hin
  clear ho hin hS hrd hfu hinn
  go_enter Tryz.func93, Tryz.ntmps93
  go_wp2_with fail
  refine PG.mono ?_
  clear PG
  rintro e w4 ⟨s4, o4, ⟨_, ab, cb, rfl, hbs⟩ | ⟨hno, _⟩⟩
  rotate_left
  · rw [hok] at hno; cases hno
  rw [hkd]
  have hb1 := built_cu ab (P.bd id).length cb
  have q5 : Below w4.heap.size w4 (w4.alloc (.cells #[.slice ab (P.bd id).length cb] 162)) := (Below.refl _ _).alloc (Nat.le_refl _) _
  have kC := blk_new w4 162 #[.slice ab (P.bd id).length cb]
  have cur5 : Cur (w4.alloc (.cells #[.slice ab (P.bd id).length cb] 162)) w4.heap.size w4.heap.size (P.bd id) := ⟨ab, (P.bd id).length, cb, ⟨kC, hbs.bs.below q5, hbs.bs.blt⟩⟩
  have EC := links_calls w4.heap.size w4.heap.size (P.bd id) _ cur5 q5.size hbl
  have hz4 := o4.size
  have H4 : Hid _ := And.intro s4 o4
  have z5 : Hid ((w4.alloc (.cells #[.slice ab (P.bd id).length cb] 162)).heap.size = w4.heap.size + 1) := by show (w4.alloc (.cells #[.slice ab (P.bd id).length cb] 162)).heap.size = w4.heap.size + 1; simp
  clear s4 o4 hbs q5 kC cur5
  go_wp2_with fail
  refine EC.mono ?_
  rintro e w6 ⟨o6, ⟨ls', la, lc, hin', rfl, hr⟩ | ⟨hno, _⟩⟩
  rotate_left
  · exfalso
    rw [H0.out.2.1] at hno
    cases hno
  rw [H0.out.2.1] at hin'
  obtain rfl := Option.some.inj hin'
  have G6 := GaQ.start HS hB0 hB H0.out.1 H4.out.1 H4.out.2 o6
  have hz6 : w4.heap.size + 1 ≤ w6.heap.size := by have := o6.size; have := z5.out; omega
  have H6 : Hid _ := And.intro G6 hr
  clear EC o6 hin' G6 hr hb1
  go_wp2_with fail
  go_loopw [1, 60] (fun s1 s60 wr => ∃ (i : Nat) (a' : Option Addr) (c' : Nat) (ys : List (ByteArray × ByteArray)) (st1 : St) (k1 : Tr), s1 = .slice a' ys.length c' ∧ s60 = .int .i64 (i : Nat) ∧ i ≤ ls.length ∧ GaQ S X B w a ys a' c' wr ∧ ORow 230 2 B wr la ls.length lc (lnF ls) ∧ rdK (rdT P f steps) (ls.drop i) st1 = some (k1, st') ∧ (full k1 (i == 0) ∧ inn k1 (i == 0)) ∧ scL fr most xs (entsT ks) = scL fr most ys (entsT k1) ∧ ys.length + (entsT k1).length ≤ 1048576) (fun _ s _ => ls.length - (intOf s).toNat)
  case atStart => exact ⟨0, a, c, xs, st, ks, rfl, rfl, Nat.zero_le _, H6.out.1, H6.out.2.mono (by have := z5.out; omega), H0.out.2.2.1, H0.out.2.2.2, rfl, hlen⟩
  case round =>
    obtain ⟨i, a', c', ys, st1, k1, rfl, rfl, hi, hQ, hr, hrd, hfi, heq, hyl⟩ := hrel
    obtain ⟨wR, hwX⟩ : ∃ wX, wX = wr := ⟨_, rfl⟩
    subst hwX
    have hwz := hQ.fr.size
    by_cases hlt : i < ls.length
    · have hlt' : (i : Int) < (ls.length : Int) := by omega
      obtain ⟨b, rfl, hbB, hbl2⟩ := orow_at hr (by omega)
      have hcl := fun m v hv => (hr.reads (lnF_ok ls _)).cells i hlt m v hv
      rw [show lnF ls i = [.string (ls.getD i l0).1, .int .i64 (ls.getD i l0).2] from rfl] at hcl
      have hdr : ls.drop i = ls.getD i l0 :: ls.drop (i + 1) := by
        rw [List.drop_eq_getElem_cons hlt]
        simp [List.getD, hlt]
      generalize ls.getD i l0 = en at *
      obtain ⟨sg, kid⟩ := en
      have cc0 : wR.cell? ⟨b, i * 2, none⟩ = some (.string sg) := by have := hcl 0 _ rfl; simpa using this
      have cc1 : wR.cell? ⟨b, i * 2 + 1, none⟩ = some (.int .i64 kid) := by have := hcl 1 _ rfl; simpa using this
      rw [hdr, rdK] at hrd
      obtain ⟨x, hx1, hx2⟩ := Option.bind_eq_some_iff.1 hrd
      obtain ⟨y, hy1, hy2⟩ := Option.bind_eq_some_iff.1 hx2
      cases hy2
      obtain ⟨x1, x2⟩ := x
      obtain ⟨y1, y2⟩ := y
      dsimp only at hy1 hyl heq hfi hx1 hrd hx2
      rw [full, inn] at hfi
      rw [entsT, scL_app] at heq
      rw [entsT, List.length_append] at hyl
      have kE := blk_new wR 230 #[.string sg, .int .i64 kid]
      have q2 : Below wR.heap.size wR (wR.alloc (Obj.cells #[.string sg, .int .i64 kid] 230)) := (Below.refl _ _).alloc (Nat.le_refl _) _
      have hyl2 : ys.length ≤ 1048576 := by omega
      have Q2 := hQ.below HS q2 (by omega)
      have r2 := hr.below q2
      have hz2 := q2.size
      -- the kid is asked for, or what it holds is not
      have HSK : Hid (scL fr most ys (entsT x1) = ys → ∃ (i_1 : Nat) (a'_1 : Option Addr) (c'_1 : Nat) (ys_1 : List (ByteArray × ByteArray)) (st1 : St) (k1 : Tr), Value.slice a' ys.length c' = .slice a'_1 ys_1.length c'_1 ∧ Value.int .i64 ((i : Int) + 1) = .int .i64 (i_1 : Nat) ∧ i_1 ≤ ls.length ∧ GaQ S X B w a ys_1 a'_1 c'_1 (wR.alloc (Obj.cells #[.string sg, .int .i64 kid] 230)) ∧ ORow 230 2 B (wR.alloc (Obj.cells #[.string sg, .int .i64 kid] 230)) (some ⟨b, 0, none⟩) ls.length lc (lnF ls) ∧ rdK (rdT P f steps) (ls.drop i_1) st1 = some (k1, y2) ∧ (full k1 (i_1 == 0) ∧ inn k1 (i_1 == 0)) ∧ scL fr most xs (entsT ks) = scL fr most ys_1 (entsT k1) ∧ ys_1.length + (entsT k1).length ≤ 1048576) := fun hs =>
        ⟨i + 1, a', c', ys, x2, y1, rfl, by go_num, by omega, Q2, r2, hy1, ⟨hfi.1.2.2.2.2, hfi.2.2.2.2⟩, by rw [heq, hs], by omega⟩
      have RC := IH steps kid st1 x2 x1 ys a' c' B _ hx1 hfi.1.2.2.2.1 hfi.2.1 Q2.src Q2.own hB0 (by omega) (by omega)
      have HRC : Hid (∀ a2 c2 w', GaQ S X B (wR.alloc (Obj.cells #[.string sg, .int .i64 kid] 230)) a' (scL fr most ys (entsT x1)) a2 c2 w' → ∃ (i_1 : Nat) (a'_1 : Option Addr) (c'_1 : Nat) (ys_1 : List (ByteArray × ByteArray)) (st1 : St) (k1 : Tr), Value.slice a2 (scL fr most ys (entsT x1)).length c2 = .slice a'_1 ys_1.length c'_1 ∧ Value.int .i64 ((i : Int) + 1) = .int .i64 (i_1 : Nat) ∧ i_1 ≤ ls.length ∧ GaQ S X B w a ys_1 a'_1 c'_1 w' ∧ ORow 230 2 B w' (some ⟨b, 0, none⟩) ls.length lc (lnF ls) ∧ rdK (rdT P f steps) (ls.drop i_1) st1 = some (k1, y2) ∧ (full k1 (i_1 == 0) ∧ inn k1 (i_1 == 0)) ∧ scL fr most xs (entsT ks) = scL fr most ys_1 (entsT k1) ∧ ys_1.length + (entsT k1).length ≤ 1048576) := fun a2 c2 w' hG => by
        have hsl := scL_len fr most (entsT x1) ys
        refine ⟨i + 1, a2, c2, _, x2, y1, rfl, by go_num, by omega, Q2.trans hG, ?_, hy1, ⟨hfi.1.2.2.2.2, hfi.2.2.2.2⟩, heq, by omega⟩
        exact orow_rb r2 (fun k hk => hG.fr.block k (orow_rb_lt r2 k hk).2 (fun e => by
          rcases e with e | e
          · have := HS.low k e; have := (orow_rb_lt r2 k hk).1; omega
          · exact orow_apart Q2.own r2 (by decide) k e k hk rfl))
      have HPR : Hid (∀ s2 id2 l2, ls.drop (i + 1) = (s2, id2) :: l2 → sle s2 fr = true → scL fr most ys (entsT x1) = ys) := fun s2 id2 l2 hd hs2 => scL_low (fun e he => by
        rw [hd] at hy1
        have h9 := hfi.2.2.2.1 e.1 (by rw [keys_ents]; exact List.mem_map.2 ⟨e, he, rfl⟩) s2 (rdK_hd2 hy1)
        exact sl_sle_trans h9 hs2)
      have hsl2 := scL_len fr most (entsT x1) ys
      have hsl3 : (scL fr most ys (entsT x1)).length ≤ 1048576 := by omega
      have HSM : Hid (¬ (ys.length : Int) < most → scL fr most ys (entsT x1) = ys) := fun h => scL_most (by omega)
      have hcn : Hid (i + 1 < ls.length → (wR.alloc (Obj.cells #[.string sg, .int .i64 kid] 230)).cell? ⟨b, (i + 1) * 2, none⟩ = some (.string (ls.getD (i + 1) l0).1)) := fun h => by
        have h9 := (r2.reads (lnF_ok ls _)).cells (i + 1) h 0 _ rfl
        simpa using h9
      clear hcl hQ hr Q2 r2 q2 hrd hx2 hx1 hy1 hfi heq hyl hdr hsl2
      go_upto_region 15 with (first | (refine wpList_storeNew rfl 230 _ _ rfl wR #[.string (strOfNums []), .int .i64 0] #[.string sg, .int .i64 kid] 230 rfl rfl sizeLn rfl rfl ?_))
      change Code.wp _ _ _ _ (wR.alloc (Obj.cells #[.string sg, .int .i64 kid] 230))
      generalize wR.alloc (Obj.cells #[.string sg, .int .i64 kid] 230) = W2 at *
      generalize heb : wR.heap.size = eb at *
      have kE' : Blk W2 230 eb [.string sg, .int .i64 kid] := kE
      have c1 : W2.cell? ⟨eb, 1, none⟩ = some (.int .i64 kid) := kE'.cell 1
      clear kE cc0 cc1
      by_cases hl2 : i + 1 < ls.length
      · have hl2' : (i : Int) + 1 < (ls.length : Int) := by omega
        have cn := hcn.out hl2
        have hdr2 : ls.drop (i + 1) = ls.getD (i + 1) l0 :: ls.drop (i + 1 + 1) := by
          rw [List.drop_eq_getElem_cons hl2]
          simp [List.getD, hl2]
        generalize ls.getD (i + 1) l0 = en2 at *
        obtain ⟨s2, id2⟩ := en2
        have HP2 : Hid (sle s2 fr = true → scL fr most ys (entsT x1) = ys) := fun h => HPR.out s2 id2 _ hdr2 h
        clear hdr2 HPR
        go_upto_region 16 with fail
        rw [leq_is]
        cases hsle : sle s2 fr with
        | true =>
          have F8 : Hid _ := HSK.out (HP2.out hsle)
          clear RC HRC HSK c1 kE' cn hcn
          go_wp2_with fail
          go_roundw
          case rel => exact F8.out
          case measure => simp [intOf]; omega
        | false =>
          clear cn
          by_cases hm : (ys.length : Int) < most
          · clear hcn
            go_wp2_with fail
            refine RC.mono ?_
            rintro e w8 ⟨a2, c2, rfl, hG⟩
            have F8 : Hid _ := HRC.out a2 c2 w8 hG
            clear RC hG HRC HSK c1 kE'
            go_wp2_with fail
            go_roundw
            case rel => exact F8.out
            case measure => simp [intOf]; omega
          · have F8 : Hid _ := HSK.out (HSM.out hm)
            clear RC HRC HSK c1 kE' hcn
            go_wp2_with fail
            go_roundw
            case rel => exact F8.out
            case measure => simp [intOf]; omega
      · have hl2' : ¬ (i : Int) + 1 < (ls.length : Int) := by omega
        go_upto_region 16 with fail
        by_cases hm : (ys.length : Int) < most
        · clear hcn
          go_wp2_with fail
          refine RC.mono ?_
          rintro e w8 ⟨a2, c2, rfl, hG⟩
          have F8 : Hid _ := HRC.out a2 c2 w8 hG
          clear RC hG HRC HSK c1 kE'
          go_wp2_with fail
          go_roundw
          case rel => exact F8.out
          case measure => simp [intOf]; omega
        · have F8 : Hid _ := HSK.out (HSM.out hm)
          clear RC HRC HSK c1 kE' hcn
          go_wp2_with fail
          go_roundw
          case rel => exact F8.out
          case measure => simp [intOf]; omega
    · have hje : i = ls.length := by omega
      have hnl : ¬ (i : Int) < (ls.length : Int) := by omega
      rw [hje, List.drop_length, rdK] at hrd
      cases hrd
      rw [show scL fr most ys (entsT .nil) = ys from rfl] at heq
      have HE : Hid _ := And.intro heq hQ
      have hyl2 : ys.length ≤ 1048576 := by omega
      clear hQ hje hr heq
      go_wp2_with fail
      go_ret
      rw [HE.out.1]
      exact ⟨a', c', rfl, HE.out.2⟩
theorem gather_calls (PW : PgW P N) (HS : Src P B0 ty 157 (.pointer (some ⟨gw, 0, none⟩)) S X) (fr : ByteArray) (most : Int) : ∀ f : Nat, GaC P S X B0 (.pointer (some ⟨gw, 0, none⟩)) fr most f
  | 0 => fun steps id st st' t xs a c B w h => by rw [rdT] at h; cases h
  | f + 1 => fun steps id st st' t xs a c B w h hf hi hS ho hB0 hB hlen => by
    rw [rdT] at h
    cases hp : pgOk P st id with
    | false => rw [if_neg (by rw [hp]; decide)] at h; cases h
    | true =>
      rw [if_pos hp] at h
      obtain ⟨p1, p2, p3, p4⟩ := pgOk_iff.1 hp
      have hN := (PW.ok id p1).2
      have hl := PW.len id
      have hNl := PW.le
      by_cases hk : P.kd id = 2
      · rw [if_pos hk] at h
        by_cases ht : st.tall < 0 ∨ st.tall = steps
        · rw [if_pos ht] at h
          obtain ⟨es, h1, h2⟩ := Option.bind_eq_some_iff.1 h
          by_cases he : es.isEmpty = true
          · rw [if_pos he] at h2; cases h2
          · rw [if_neg he] at h2
            cases h2
            exact ga_leaf HS fr most id p1 hk (by omega) (by omega) hl es h1 xs a c B w hS ho hB0 hB hlen (by simpa using he)
        · rw [if_neg ht] at h; cases h
      · rw [if_neg hk] at h
        obtain ⟨ls, h1, h2⟩ := Option.bind_eq_some_iff.1 h
        obtain ⟨y, h3, h4⟩ := Option.map_eq_some_iff.1 h2
        cases h4
        have hk3 : P.kd id = 3 := by rcases p4 with e | e; exact absurd e hk; exact e
        rw [full] at hf
        rw [inn] at hi
        exact ga_node HS fr most id (steps + 1) f (gather_calls PW HS fr most f) p1 hk3 (by omega) (by omega) hl ls h1 _ _ y.1 h3 hf.2 hi xs a c B w hS ho hB0 hB hlen
end Go.Proofs.YtnohmedccbogkaaGreatDoor

namespace Go.Proofs.YtnohmedccbogkaaGreatDoor
open Go.RowKit
set_option linter.unusedVariables false
def stV (d : DV) (K : DK) (g r u f : Int) : List Value := [.slice d.sa K.n d.sc, .slice d.pa K.m d.pc, .int .i64 g, .int .i64 r, .int .i64 u, .int .i64 f]
def stZ : List Value := [.slice none 0 0, .slice none 0 0, .int .i64 0, .int .i64 0, .int .i64 0, .int .i64 0]
theorem stV_one (d : DV) (K : DK) (g r u f : Int) : ∀ x ∈ stV d K g r u f, x.oneCell' = true := by intro x hx; simp [stV] at hx; rcases hx with rfl | rfl | rfl | rfl | rfl | rfl <;> rfl
theorem sizeSt : (Tryz.prog.info? 40).map (·.size) = some 6 := by kernel_rfl
theorem ownsRow_low {B e s : Nat} {w w' : World} {v : Value} {n : Nat} {xs : List Value} (h : w.ownsRow B e s v n xs) (hk : ∀ k, B ≤ k → k < w.heap.size → w'.heap[k]? = w.heap[k]?) : w'.ownsRow B e s v n xs := by
  refine ⟨h.1, ?_⟩
  rcases h.2 with h2 | ⟨g, cap, cur, e1, hB, hh, r⟩
  · exact Or.inl h2
  · exact Or.inr ⟨g, cap, cur, e1, hB, (hk g hB (Array.getElem?_eq_some_iff.1 hh).1).trans hh, r⟩
theorem ORecs.low {p e B : Nat} {w w' : World} {a : Option Addr} {n c : Nat} {I : Nat → Nat → Int} {A : Nat → Option Addr} {N C : Nat → Nat} {L : Nat → List Int} (h : ORecs p e B w a n c I A N C L) (hk : ∀ k, B ≤ k → k < w.heap.size → w'.heap[k]? = w.heap[k]?) : ORecs p e B w' a n c I A N C L :=
  ⟨ownsRow_low h.row hk, fun i hi => ownsRow_low (h.data i hi) hk, h.byte, h.sep1⟩
theorem odisk_only {B B0 g : Nat} {w w' : World} {d : DV} {K : DK} (h : ODisk B w d K) (o : OnlyB g w w') (hB : B0 ≤ B) (hg : g < B) : ODisk B0 w' d K := by
  have hk : ∀ k, B ≤ k → k < w.heap.size → w'.heap[k]? = w.heap[k]? := fun k h1 h2 => o.block k h2 (by omega)
  exact ⟨(h.safe.low hk).mono hB, (h.pend.low hk).mono hB, h.sepX⟩
theorem odisk_setRow {B B0 g : Nat} {w : World} {d : DV} {K : DK} {cells : Array Value} (h : ODisk B w d K) (hB : B0 ≤ B) (hg : g < B) : ODisk B0 (w.setRow g cells) d K := by
  have o := onlyB_setRow w g cells
  have hk : ∀ k, B ≤ k → k < w.heap.size → (w.setRow g cells).heap[k]? = w.heap[k]? := fun k h1 h2 => o.block k h2 (by omega)
  exact ⟨(h.safe.low hk).mono hB, (h.pend.low hk).mono hB, h.sepX⟩
end Go.Proofs.YtnohmedccbogkaaGreatDoor

