import PyProof.Rows.All
import Wide.All
import OpenK.AllK
import Wide.FinOn
import Open.SpecLaws
import KE.OsGo
import HandS.ForSpec
import HandS.Flow
import HandS.Comp
import HandS.Iter
import HandS.Walk
import PySem.Challenge.RW_rugborders_s02_round_of
set_option Elab.async false
set_option linter.all false
set_option maxRecDepth 100000
set_option maxHeartbeats 4000000
namespace RM
open Wqbbch
/-! ### a chart's text -/
def bi (k : Nat) : Int := ((byteOf k).toNat : Int)
def encRows (rows : List (List Nat)) : List (List Int) := rows.map fun r => r.map bi
def enc (c : Chart) : List (List Int) := encRows c.rows
def flat (rows : List (List Int)) : List Int := rows.flatMap fun r => r ++ [10]
def isCol (b : Int) : Bool := (decide (97 ≤ b) && decide (b ≤ 122)) || ((decide (65 ≤ b) && decide (b ≤ 90)) || (decide (48 ≤ b) && decide (b ≤ 57)))
def dec (b : Int) : Nat := ((List.range 62).find? fun k => decide (bi k = b)).getD 0
theorem bi_col : ∀ k, k < 62 → isCol (bi k) = true ∧ bi k ≠ 10 := by decide +kernel
theorem col_dec0 : ∀ n : Nat, n < 128 → isCol (n : Int) = true → dec (n : Int) < 62 ∧ bi (dec (n : Int)) = (n : Int) := by decide +kernel
theorem col_range {b : Int} (h : isCol b = true) : 48 ≤ b ∧ b ≤ 122 := by
  simp only [isCol, Bool.or_eq_true, Bool.and_eq_true, decide_eq_true_eq] at h
  omega
theorem col_dec {b : Int} (h : isCol b = true) : dec b < 62 ∧ bi (dec b) = b := by
  have r := col_range h
  have e : b = ((b.toNat : Nat) : Int) := by omega
  have q := col_dec0 b.toNat (by omega) (by rw [← e]; exact h)
  rw [← e] at q
  exact q
theorem colour_byte : ∀ k, k < 62 → colourOf (byteOf k) = some k := by decide +kernel
theorem byte_lf : ∀ k, k < 62 → byteOf k ≠ LF := by decide +kernel
/-! ### the reading loop -/
def parseGo : List Int → List (List Int) → List Int → Option (List (List Int) × List Int)
  | [], rows, row => some (rows, row)
  | b :: r, rows, row => if b = 10 then parseGo r (rows ++ [row]) [] else if isCol b = true then parseGo r rows (row ++ [b]) else none
def sizeOkI (w h : Nat) : Bool := decide (1 ≤ w) && decide (w ≤ 512) && (decide (1 ≤ h) && decide (h ≤ 512)) && decide (w * h ≤ 65536)
def wideOf (rows : List (List Int)) : Nat := (rows.headD []).length
def isChart (rows : List (List Int)) : Bool := !rows.isEmpty && rows.all (fun r => decide (r.length = wideOf rows)) && sizeOkI (wideOf rows) rows.length
def parse (ns : List Int) : Option (List (List Int)) := match parseGo ns [] [] with
  | none => none
  | some (rows, row) => if row = [] ∧ isChart rows = true then some rows else none
def allCol (r : List Int) : Prop := ∀ b ∈ r, isCol b = true
theorem parse_row : ∀ (r : List Int) (rest : List Int) (rows : List (List Int)) (row : List Int), allCol r → parseGo (r ++ 10 :: rest) rows row = parseGo rest (rows ++ [row ++ r]) []
  | [], rest, rows, row, _ => by
    show (if (10 : Int) = 10 then parseGo rest (rows ++ [row]) [] else _) = _
    rw [if_pos rfl, List.append_nil]
  | b :: r, rest, rows, row, h => by
    have hb : isCol b = true := h b (List.mem_cons_self ..)
    have nb : b ≠ 10 := by have := col_range hb; omega
    show (if b = 10 then parseGo (r ++ 10 :: rest) (rows ++ [row]) [] else if isCol b = true then parseGo (r ++ 10 :: rest) rows (row ++ [b]) else none) = _
    rw [if_neg nb, if_pos hb, parse_row r rest rows (row ++ [b]) fun x hx => h x (List.mem_cons_of_mem _ hx), List.append_assoc] <;> rfl
theorem parse_flat : ∀ (l rows : List (List Int)), (∀ r ∈ l, allCol r) → parseGo (flat l) rows [] = some (rows ++ l, [])
  | [], rows, _ => by
    show some (rows, []) = _
    rw [List.append_nil]
  | r :: l, rows, h => by
    have e : flat (r :: l) = r ++ 10 :: flat l := by simp [flat]
    rw [e, parse_row _ _ _ _ (h r (List.mem_cons_self ..)), parse_flat l _ fun x hx => h x (List.mem_cons_of_mem _ hx)]
    simp
theorem parse_inv : ∀ (ns : List Int) (rows : List (List Int)) (row : List Int) (R : List (List Int)) (q : List Int), parseGo ns rows row = some (R, q) → (∀ r ∈ rows, allCol r) → allCol row → (∀ r ∈ R, allCol r) ∧ allCol q ∧ flat R ++ q = flat rows ++ row ++ ns
  | [], rows, row, R, q, e, h1, h2 => by
    have e' : (rows, row) = (R, q) := Option.some.inj e
    cases e'
    exact ⟨h1, h2, by rw [List.append_nil]⟩
  | b :: r, rows, row, R, q, e, h1, h2 => by
    have e' : (if b = 10 then parseGo r (rows ++ [row]) [] else if isCol b = true then parseGo r rows (row ++ [b]) else none) = some (R, q) := e
    by_cases hb : b = 10
    · rw [if_pos hb] at e'
      have z := parse_inv r _ _ R q e' (by
        intro x hx
        rcases List.mem_append.mp hx with hx | hx
        · exact h1 x hx
        · rw [List.mem_singleton] at hx
          rw [hx]; exact h2) (by intro x hx; cases hx)
      refine ⟨z.1, z.2.1, z.2.2.trans ?_⟩
      subst hb
      simp [flat]
    · rw [if_neg hb] at e'
      by_cases hc : isCol b = true
      · rw [if_pos hc] at e'
        have z := parse_inv r _ _ R q e' h1 (by
          intro x hx
          rcases List.mem_append.mp hx with hx | hx
          · exact h2 x hx
          · rw [List.mem_singleton] at hx
            rw [hx]; exact hc)
        refine ⟨z.1, z.2.1, z.2.2.trans ?_⟩
        simp
      · rw [if_neg hc] at e'
        cases e'
/-! ### charts of the specification -/
theorem right_iff {c : Chart} : c.right = true ↔ (1 ≤ c.wide ∧ c.wide ≤ 512 ∧ 1 ≤ c.high ∧ c.high ≤ 512) ∧ c.wide * c.high ≤ 65536 ∧ c.rows.length = c.high ∧ ∀ r ∈ c.rows, r.length = c.wide ∧ ∀ k ∈ r, k < 62 := by
  simp only [Chart.right, sizeOk, Bool.and_eq_true, decide_eq_true_eq, List.all_eq_true]
  exact Iff.rfl
theorem cut_row : ∀ (r : List UInt8) (rest : List UInt8) (p : Nat) (w : List UInt8), (∀ b ∈ r, b ≠ LF) → cut LF p w (r ++ LF :: rest) = (p, w ++ r) :: cut LF (p + (w ++ r).length + 1) [] rest
  | [], rest, p, w, _ => by
    show (if LF = LF then _ else _) = _
    rw [if_pos rfl, List.append_nil]
  | b :: r, rest, p, w, h => by
    show (if b = LF then _ else cut LF p (w ++ [b]) (r ++ LF :: rest)) = _
    rw [if_neg (h b (List.mem_cons_self ..)), cut_row r rest p (w ++ [b]) fun x hx => h x (List.mem_cons_of_mem _ hx), List.append_assoc]
    rfl
theorem cut_text : ∀ (rows : List (List Nat)) (p : Nat), (∀ r ∈ rows, ∀ k ∈ r, k < 62) → ∃ q, (cut LF p [] (rows.flatMap fun (r : List Nat) => r.map byteOf ++ [LF])).map (fun (x : Nat × List UInt8) => x.2.map colourOf) = rows.map (fun r => r.map some) ++ [q]
  | [], p, _ => ⟨[], rfl⟩
  | r :: rows, p, h => by
    have e : ((r :: rows).flatMap fun (r : List Nat) => r.map byteOf ++ [LF]) = r.map byteOf ++ LF :: (rows.flatMap fun (r : List Nat) => r.map byteOf ++ [LF]) := by simp
    obtain ⟨q, hq⟩ := cut_text rows (p + ([] ++ r.map byteOf).length + 1) fun x hx => h x (List.mem_cons_of_mem _ hx)
    refine ⟨q, ?_⟩
    rw [e, cut_row _ _ _ _ (by
      intro b hb
      obtain ⟨k, hk, rfl⟩ := List.mem_map.mp hb
      exact byte_lf k (h r (List.mem_cons_self ..) k hk)), List.map_cons, hq]
    have z : ([] ++ r.map byteOf).map colourOf = r.map some := by
      rw [List.nil_append, List.map_map]
      exact List.map_congr_left fun k hk => colour_byte k (h r (List.mem_cons_self ..) k hk)
    show ([] ++ r.map byteOf).map colourOf :: _ = _
    rw [z] <;> rfl
theorem unsome : ∀ r : List Nat, (r.map some).filterMap id = r
  | [] => rfl
  | k :: r => by
    show k :: (r.map some).filterMap id = k :: r
    rw [unsome r]
theorem chart_text {c : Chart} (h : c.right = true) : chartOf c.text = some c := by
  obtain ⟨h1, h2, h3, h4⟩ := right_iff.mp h
  obtain ⟨q, hq⟩ := cut_text c.rows 0 fun r hr => (h4 r hr).2
  have hl : ((cut LF 0 [] c.text).map fun (x : Nat × List UInt8) => x.2.map colourOf).dropLast = c.rows.map fun r => r.map some := by
    show ((cut LF 0 [] (c.rows.flatMap fun (r : List Nat) => r.map byteOf ++ [LF])).map fun (x : Nat × List UInt8) => x.2.map colourOf).dropLast = _
    rw [hq, List.dropLast_concat]
  have hr : (c.rows.map fun r => r.map some).map (fun (r : List (Option Nat)) => r.filterMap id) = c.rows := by
    rw [List.map_map]
    conv => rhs; rw [← List.map_id c.rows]
    exact List.map_congr_left fun r _ => unsome r
  have hw : ((c.rows.map fun r => r.map some).headD []).length = c.wide := by
    cases e : c.rows with
    | nil => rw [e] at h3; have h3' : 0 = c.high := h3; omega
    | cons r l =>
      show (r.map some).length = _
      rw [List.length_map]
      exact (h4 r (by rw [e]; exact List.mem_cons_self ..)).1
  unfold chartOf
  simp only [hl]
  rw [hw, hr, List.length_map, h3]
  exact if_pos ⟨h, rfl⟩
theorem text_flat (rows : List (List Nat)) : RugDNeutral.text (flat (encRows rows)) = rows.flatMap fun (r : List Nat) => r.map byteOf ++ [LF] := by
  induction rows with
  | nil => rfl
  | cons r l ih =>
    have e : flat (encRows (r :: l)) = r.map bi ++ 10 :: flat (encRows l) := by simp [flat, encRows]
    rw [e]
    have t : ∀ a b, RugDNeutral.text (a ++ b) = RugDNeutral.text a ++ RugDNeutral.text b := by
      intro a b
      simp [RugDNeutral.text, RugDNeutral.nats]
    rw [t]
    have t2 : RugDNeutral.text (10 :: flat (encRows l)) = LF :: RugDNeutral.text (flat (encRows l)) := rfl
    rw [t2, ih]
    have t3 : RugDNeutral.text (r.map bi) = r.map byteOf := by
      show (((r.map bi).map Int.toNat).map UInt8.ofNat) = _
      rw [List.map_map, List.map_map]
      refine List.map_congr_left fun k _ => ?_
      show UInt8.ofNat (((byteOf k).toNat : Int).toNat) = byteOf k
      rw [Int.toNat_natCast, UInt8.ofNat_toNat]
    rw [t3]
    simp
def bytesOk (ns : List Int) : Prop := ∀ b ∈ ns, 0 ≤ b ∧ b ≤ 255
theorem text_back {ns : List Int} (h : bytesOk ns) : (RugDNeutral.text ns).map (fun c => ((c.toNat : Nat) : Int)) = ns := by
  show (((ns.map Int.toNat).map UInt8.ofNat).map _) = _
  rw [List.map_map, List.map_map]
  conv => rhs; rw [← List.map_id ns]
  refine List.map_congr_left fun b hb => ?_
  show (((UInt8.ofNat b.toNat).toNat : Nat) : Int) = b
  have := h b hb
  rw [UInt8.toNat_ofNat']
  omega
theorem flat_bytes (rows : List (List Nat)) : (rows.flatMap fun (r : List Nat) => r.map byteOf ++ [LF]).map (fun c => ((c.toNat : Nat) : Int)) = flat (encRows rows) := by
  induction rows with
  | nil => rfl
  | cons r l ih =>
    have e : flat (encRows (r :: l)) = r.map bi ++ 10 :: flat (encRows l) := by simp [flat, encRows]
    rw [e, ← ih]
    simp [bi, LF]
theorem enc_col {c : Chart} (h : c.right = true) : ∀ r ∈ enc c, allCol r := by
  intro r hr b hb
  obtain ⟨s, hs, rfl⟩ := List.mem_map.mp hr
  obtain ⟨k, hk, rfl⟩ := List.mem_map.mp hb
  exact (bi_col k (((right_iff.mp h).2.2.2 s hs).2 k hk)).1
theorem enc_wide {c : Chart} (h : c.right = true) : wideOf (enc c) = c.wide := by
  obtain ⟨h1, h2, h3, h4⟩ := right_iff.mp h
  unfold wideOf enc encRows
  cases e : c.rows with
  | nil => rw [e] at h3; have h3' : 0 = c.high := h3; omega
  | cons r l =>
    show (r.map bi).length = _
    rw [List.length_map]
    exact (h4 r (by rw [e]; exact List.mem_cons_self ..)).1
theorem enc_high {c : Chart} (h : c.right = true) : (enc c).length = c.high := by
  rw [enc, encRows, List.length_map]
  exact (right_iff.mp h).2.2.1
theorem enc_chart {c : Chart} (h : c.right = true) : isChart (enc c) = true := by
  obtain ⟨h1, h2, h3, h4⟩ := right_iff.mp h
  have e1 := enc_wide h
  have e2 := enc_high h
  unfold isChart
  rw [e1, e2]
  simp only [sizeOkI, Bool.and_eq_true, decide_eq_true_eq, List.all_eq_true]
  refine ⟨⟨?_, ?_⟩, ⟨⟨⟨h1.1, h1.2.1⟩, h1.2.2⟩, h2⟩⟩
  · cases e : enc c with
    | nil => rw [e] at e2; have e2' : 0 = c.high := e2; omega
    | cons => rfl
  · intro r hr
    obtain ⟨s, hs, rfl⟩ := List.mem_map.mp hr
    rw [List.length_map]
    exact (h4 s hs).1
theorem parse_of_right {c : Chart} (h : c.right = true) : parse (flat (enc c)) = some (enc c) := by
  unfold parse
  rw [parse_flat _ _ (enc_col h)]
  exact if_pos ⟨rfl, by rw [List.nil_append]; exact enc_chart h⟩
theorem parse_some {ns : List Int} {rows : List (List Int)} (e : parse ns = some rows) : ∃ c : Chart, chartOf (RugDNeutral.text ns) = some c ∧ c.right = true ∧ rows = enc c := by
  unfold parse at e
  cases e1 : parseGo ns [] [] with
  | none => rw [e1] at e; cases e
  | some p =>
    obtain ⟨R, q⟩ := p
    rw [e1] at e
    have e' : (if q = [] ∧ isChart R = true then some R else none) = some rows := e
    by_cases hc : q = [] ∧ isChart R = true
    · rw [if_pos hc] at e'
      cases e'
      obtain ⟨hq, hch⟩ := hc
      subst hq
      obtain ⟨z1, _, z3⟩ := parse_inv ns [] [] rows [] e1 (by intro r hr; cases hr) (by intro r hr; cases hr)
      have z3' : flat rows = ns := by simpa [flat] using z3
      have back : encRows (rows.map fun r => r.map dec) = rows := by
        unfold encRows
        rw [List.map_map]
        conv => rhs; rw [← List.map_id rows]
        refine List.map_congr_left fun r hr => ?_
        show (r.map dec).map bi = r
        rw [List.map_map]
        conv => rhs; rw [← List.map_id r]
        exact List.map_congr_left fun b hb => (col_dec (z1 r hr b hb)).2
      have hch' := hch
      simp only [isChart, sizeOkI, Bool.and_eq_true, decide_eq_true_eq, List.all_eq_true] at hch'
      obtain ⟨⟨_, ha⟩, ⟨⟨hw1, hw2⟩, hh⟩, hk⟩ := hch'
      let c : Chart := ⟨wideOf rows, rows.length, rows.map fun r => r.map dec⟩
      have hr : c.right = true := by
        refine right_iff.mpr ⟨⟨hw1, hw2, hh⟩, hk, List.length_map _, ?_⟩
        intro r hr
        obtain ⟨s, hs, rfl⟩ := List.mem_map.mp hr
        refine ⟨by rw [List.length_map]; exact ha s hs, ?_⟩
        intro k hk
        obtain ⟨b, hb, rfl⟩ := List.mem_map.mp hk
        exact (col_dec (z1 s hs b hb)).1
      refine ⟨c, ?_, hr, back.symm⟩
      have ht : c.text = RugDNeutral.text ns := by
        rw [← z3', ← back]
        exact (text_flat _).symm
      rw [← ht]
      exact chart_text hr
    · rw [if_neg hc] at e'
      cases e'
theorem parse_none {ns : List Int} (hb : bytesOk ns) (e : parse ns = none) : chartOf (RugDNeutral.text ns) = none := by
  cases h : chartOf (RugDNeutral.text ns) with
  | none => rfl
  | some c =>
    have q : c.right = true ∧ c.text = RugDNeutral.text ns := by
      unfold chartOf at h
      simp only at h
      split at h
      · rename_i hh
        cases h
        exact hh
      · cases h
    have z : ns = flat (enc c) := by
      rw [← text_back hb, ← q.2]
      exact flat_bytes c.rows
    rw [z, parse_of_right q.1] at e
    cases e
end RM
namespace RM
open Wqbbch
/-! ### what a knot of the rug is -/
def told3 : From → Nat × Nat × Nat
  | .field i j => (0, i, j)
  | .strip i j => (1, i, j)
  | .corner i j => (2, i, j)
def seen (h W H x y : Nat) : Nat × Nat :=
  if x < W + h ∧ y < h then (x, y) else if W + h ≤ x ∧ y < H + h then (y, W + 2 * h - 1 - x) else if h ≤ x ∧ H + h ≤ y then (W + 2 * h - 1 - x, H + 2 * h - 1 - y) else (H + 2 * h - 1 - y, x)
def knot (k : Kind) (L h W H x y : Nat) : Nat × Nat × Nat :=
  if h ≤ x ∧ x < W + h ∧ h ≤ y ∧ y < H + h then (0, x - h, y - h) else match k with
    | .met => (1, max (min x (W + 2 * h - 1 - x)) (min y (H + 2 * h - 1 - y)) % L, min (min x (W + 2 * h - 1 - x)) (min y (H + 2 * h - 1 - y)))
    | .run => (1, (seen h W H x y).1 % L, (seen h W H x y).2)
    | .set => if (seen h W H x y).1 < h then (2, (seen h W H x y).1, (seen h W H x y).2) else (1, ((seen h W H x y).1 - h) % L, (seen h W H x y).2)
theorem s3 {a b c : Nat} {i j : Nat} (h1 : b = i) (h2 : c = j) : (a, b, c) = (a, i, j) := by rw [h1, h2]
theorem knot_is (k : Kind) (L h W H x y : Nat) (hx : x < W + 2 * h) (hy : y < H + 2 * h) (hW : 1 ≤ W) (hH : 1 ≤ H) (hh : 1 ≤ h) : told3 (fromOf k L h W H x y) = knot k L h W H x y := by
  unfold fromOf knot
  by_cases c : h ≤ x ∧ x < W + h ∧ h ≤ y ∧ y < H + h
  · rw [if_pos c]
    simp only
    rw [if_pos (by omega)]
    rfl
  · rw [if_neg c]
    simp only
    rw [if_neg (by omega)]
    cases k with
    | met => rfl
    | run =>
      simp only [seen]
      by_cases c1 : x < W + h ∧ y < h
      · rw [if_pos c1, if_pos c1]; rfl
      · rw [if_neg c1, if_neg c1]
        by_cases c2 : W + h ≤ x ∧ y < H + h
        · rw [if_pos c2, if_pos c2]; rfl
        · rw [if_neg c2, if_neg c2]
          by_cases c3 : h ≤ x ∧ H + h ≤ y
          · rw [if_pos c3, if_pos c3]; rfl
          · rw [if_neg c3, if_neg c3]; rfl
    | set =>
      simp only
      by_cases c1 : x < W + h ∧ y < h
      · have e : seen h W H x y = (x, y) := if_pos c1
        rw [e]
        simp only
        by_cases d : x < h
        · rw [if_pos (by omega), if_pos d]; rfl
        · rw [if_neg (by omega), if_neg (by omega), if_neg (by omega), if_neg (by omega), if_pos (by omega), if_neg d]; rfl
      · by_cases c2 : W + h ≤ x ∧ y < H + h
        · have e : seen h W H x y = (y, W + 2 * h - 1 - x) := (if_neg c1).trans (if_pos c2)
          rw [e]
          simp only
          by_cases d : y < h
          · rw [if_neg (by omega), if_pos (by omega), if_pos d]
            exact s3 rfl (by omega)
          · rw [if_neg (by omega), if_neg (by omega), if_neg (by omega), if_neg (by omega), if_neg d, if_pos (by omega), if_neg d]; rfl
        · by_cases c3 : h ≤ x ∧ H + h ≤ y
          · have e : seen h W H x y = (W + 2 * h - 1 - x, H + 2 * h - 1 - y) := (if_neg c1).trans ((if_neg c2).trans (if_pos c3))
            rw [e]
            simp only
            by_cases d : W + 2 * h - 1 - x < h
            · rw [if_neg (by omega), if_neg (by omega), if_pos (by omega), if_pos d]
              exact s3 (by omega) (by omega)
            · rw [if_neg (by omega), if_neg (by omega), if_neg (by omega), if_neg (by omega), if_neg (by omega), if_neg (by omega), if_pos (by omega), if_neg d]
              exact s3 (congrArg (· % L) (by omega)) rfl
          · have e : seen h W H x y = (H + 2 * h - 1 - y, x) := (if_neg c1).trans ((if_neg c2).trans (if_neg c3))
            rw [e]
            simp only
            by_cases d : H + 2 * h - 1 - y < h
            · rw [if_neg (by omega), if_neg (by omega), if_neg (by omega), if_pos (by omega), if_pos d]
              exact s3 (by omega) rfl
            · rw [if_neg (by omega), if_neg (by omega), if_neg (by omega), if_neg (by omega), if_neg (by omega), if_neg (by omega), if_neg (by omega), if_neg d]
              exact s3 (congrArg (· % L) (by omega)) rfl
/-- where a knot of the border lies in its chart -/
structure In3 (k : Kind) (L h W H : Nat) (p : Nat × Nat × Nat) : Prop where
  a : p.1 ≤ 2
  f : p.1 = 0 → p.2.1 < W ∧ p.2.2 < H
  s : p.1 = 1 → p.2.1 < L ∧ p.2.2 < h
  c : p.1 = 2 → k = .set ∧ p.2.1 < h ∧ p.2.2 < h
theorem seen_lt {h W H x y : Nat} (hx : x < W + 2 * h) (hy : y < H + 2 * h) (c : ¬ (h ≤ x ∧ x < W + h ∧ h ≤ y ∧ y < H + h)) : (seen h W H x y).2 < h := by
  unfold seen
  by_cases c1 : x < W + h ∧ y < h
  · rw [if_pos c1]; exact c1.2
  · rw [if_neg c1]
    by_cases c2 : W + h ≤ x ∧ y < H + h
    · rw [if_pos c2]; show W + 2 * h - 1 - x < h; omega
    · rw [if_neg c2]
      by_cases c3 : h ≤ x ∧ H + h ≤ y
      · rw [if_pos c3]; show H + 2 * h - 1 - y < h; omega
      · rw [if_neg c3]; show x < h; omega
theorem knot_in (k : Kind) {L h W H x y : Nat} (hx : x < W + 2 * h) (hy : y < H + 2 * h) (hL : 1 ≤ L) : In3 k L h W H (knot k L h W H x y) := by
  unfold knot
  by_cases c : h ≤ x ∧ x < W + h ∧ h ≤ y ∧ y < H + h
  · rw [if_pos c]
    exact ⟨by show 0 ≤ 2; omega, fun _ => ⟨by show x - h < W; omega, by show y - h < H; omega⟩, fun e => absurd (show (0 : Nat) = 1 from e) (by omega), fun e => absurd (show (0 : Nat) = 2 from e) (by omega)⟩
  · rw [if_neg c]
    have z := seen_lt hx hy c
    cases k with
    | met =>
      exact ⟨by show 1 ≤ 2; omega, fun e => absurd (show (1 : Nat) = 0 from e) (by omega), fun _ => ⟨Nat.mod_lt _ hL, by show min (min x (W + 2 * h - 1 - x)) (min y (H + 2 * h - 1 - y)) < h; omega⟩, fun e => absurd (show (1 : Nat) = 2 from e) (by omega)⟩
    | run =>
      exact ⟨by show 1 ≤ 2; omega, fun e => absurd (show (1 : Nat) = 0 from e) (by omega), fun _ => ⟨Nat.mod_lt _ hL, z⟩, fun e => absurd (show (1 : Nat) = 2 from e) (by omega)⟩
    | set =>
      simp only
      by_cases d : (seen h W H x y).1 < h
      · rw [if_pos d]
        exact ⟨by show 2 ≤ 2; omega, fun e => absurd (show (2 : Nat) = 0 from e) (by omega), fun e => absurd (show (2 : Nat) = 1 from e) (by omega), fun _ => ⟨rfl, d, z⟩⟩
      · rw [if_neg d]
        exact ⟨by show 1 ≤ 2; omega, fun e => absurd (show (1 : Nat) = 0 from e) (by omega), fun _ => ⟨Nat.mod_lt _ hL, z⟩, fun e => absurd (show (1 : Nat) = 2 from e) (by omega)⟩
/-! ### the rug -/
/-- an item of a chart's rows -/
def item (rows : List (List Int)) (x y : Nat) : Int := (rows.getD y []).getD x 0
theorem item_enc {c : Chart} (h : c.right = true) {x y : Nat} (hx : x < c.wide) (hy : y < c.high) : item (enc c) x y = bi (c.at_ x y) := by
  obtain ⟨h1, h2, h3, h4⟩ := right_iff.mp h
  have hy' : y < c.rows.length := by omega
  have hl : (c.rows[y]).length = c.wide := (h4 _ (List.getElem_mem hy')).1
  simp only [item, enc, encRows, Chart.at_, List.getD_eq_getElem?_getD, List.getElem?_map, List.getElem?_eq_getElem hy', Option.map_some, Option.getD_some]
  have hx' : x < (c.rows[y]).length := by omega
  simp only [List.getElem?_eq_getElem hx', Option.map_some, Option.getD_some]
/-- the knot's colour among the three sources -/
def srcOf (f s c : List (List Int)) (a : Nat) : List (List Int) := if a = 0 then f else if a = 1 then s else c
def pick (f s c : List (List Int)) (p : Nat × Nat × Nat) : Int := item (srcOf f s c p.1) p.2.1 p.2.2
def rugRow (k : Kind) (L h W H : Nat) (f s c : List (List Int)) (y : Nat) : List Int := (List.range (W + 2 * h)).map fun x => pick f s c (knot k L h W H x y)
def rug (k : Kind) (L h W H : Nat) (f s c : List (List Int)) : List (List Int) := (List.range (H + 2 * h)).map fun y => rugRow k L h W H f s c y
/-- the specification's rug is this one; cr: the corner's rows (no rows but for kind 0) -/
theorem rug_is {k : Kind} {t s c : Chart} {cr : List (List Int)} (ht : t.right = true) (hs : s.right = true) (hc : k = .set → c.right = true ∧ c.wide = s.high ∧ c.high = s.high ∧ cr = enc c) :
    enc (bordered k t s c) = rug k s.wide s.high t.wide t.high (enc t) (enc s) cr := by
  obtain ⟨t1, _⟩ := right_iff.mp ht
  obtain ⟨s1, _⟩ := right_iff.mp hs
  unfold enc encRows bordered Chart.by_ rug
  rw [List.map_map]
  refine List.map_congr_left fun y hy => ?_
  rw [List.mem_range] at hy
  show ((List.range (t.wide + 2 * s.high)).map _).map bi = rugRow _ _ _ _ _ _ _ _ y
  unfold rugRow
  rw [List.map_map]
  refine List.map_congr_left fun x hx => ?_
  rw [List.mem_range] at hx
  have e := knot_is k s.wide s.high t.wide t.high x y hx hy (by omega) (by omega) (by omega)
  have I := knot_in k (L := s.wide) hx hy (by omega)
  rw [← e] at I ⊢
  show bi (match fromOf k s.wide s.high t.wide t.high x y with
    | .field i j => t.at_ i j
    | .strip i j => s.at_ i j
    | .corner i j => c.at_ i j) = _
  cases q : fromOf k s.wide s.high t.wide t.high x y with
  | field i j =>
    rw [q] at I
    exact (item_enc ht (I.f rfl).1 (I.f rfl).2).symm
  | strip i j =>
    rw [q] at I
    exact (item_enc hs (I.s rfl).1 (I.s rfl).2).symm
  | corner i j =>
    rw [q] at I
    obtain ⟨hk, hi, hj⟩ := I.c rfl
    obtain ⟨c1, c2, c3, c4⟩ := hc hk
    subst c4
    exact (item_enc c1 (by show i < c.wide; rw [c2]; exact hi) (by show j < c.high; rw [c3]; exact hj)).symm
end RM
namespace RM
open Wqbbch
/-! ### the call round -/
def sideI (n : Nat) : Bool := decide (1 ≤ n) && decide (n ≤ 512)
def inB (kind : Int) (L h W H : Nat) : Bool := decide (kind ≤ 2) && (decide (1 ≤ h) && decide (h ≤ 128)) && (sideI L && (sideI W && sideI H))
def comesOut (kind : Int) (L h W H : Nat) : Bool := if kind = 0 then decide (W % L = 0) && decide (H % L = 0) else if kind = 1 then decide ((W + 2 * h) % (2 * L) = 0) && decide ((H + 2 * h) % (2 * L) = 0) else decide ((W + h) % L = 0) && decide ((H + h) % L = 0)
def rightCorner (kind : Int) (corner : List (List Int)) (h : Nat) : Bool := if kind ≠ 0 then corner.isEmpty else decide (corner.length = h) && decide (wideOf corner = h)
def refusal (kind : Int) (f s c : List (List Int)) : Int :=
  if ¬ (inB kind (wideOf s) s.length (wideOf f) f.length = true ∧ rightCorner kind c s.length = true) then -1 else if ¬ comesOut kind (wideOf s) s.length (wideOf f) f.length = true then -3
  else if ¬ sizeOkI (wideOf f + 2 * s.length) (f.length + 2 * s.length) = true then -8 else 0
def kk (kind : Int) : Kind := if kind = 0 then .set else if kind = 1 then .met else .run
def cparse (c : List Int) : Option (List (List Int)) := if c = [] then some [] else parse c
def roundM (kind : Int) (t s c : List Int) : List Int :=
  if 66048 < t.length ∨ 66048 < s.length ∨ 66048 < c.length then [-2] else match parse t, parse s, cparse c with
    | some f, some s, some c => if refusal kind f s c < 0 then [refusal kind f s c] else
      ((flat (rug (kk kind) (wideOf s) s.length (wideOf f) f.length f s c)).length : Int) :: flat (rug (kk kind) (wideOf s) s.length (wideOf f) f.length f s c)
    | _, _, _ => [-6]
theorem text_len (ns : List Int) : (RugDNeutral.text ns).length = ns.length := by simp [RugDNeutral.text, RugDNeutral.nats]
theorem shown_says (z : Int) : RugDNeutral.shown (says z) = [z] := rfl
theorem shown_whole (c : Chart) : RugDNeutral.shown (whole c) = ((flat (enc c)).length : Int) :: flat (enc c) := by
  have e := flat_bytes c.rows
  show ((c.text.length : Nat) : Int) :: ([] ++ c.text.map _) = _
  rw [List.nil_append]
  have e' : c.text.map (fun c => ((c.toNat : Nat) : Int)) = flat (enc c) := e
  rw [e', ← e', List.length_map]
theorem comes_fits {kind : Int} {L h W H : Nat} : fits (kk kind) L h W H = comesOut kind L h W H := by
  unfold kk comesOut
  by_cases c0 : kind = 0
  · rw [if_pos c0, if_pos c0]; rfl
  · rw [if_neg c0, if_neg c0]
    by_cases c1 : kind = 1
    · rw [if_pos c1, if_pos c1]; rfl
    · rw [if_neg c1, if_neg c1]; rfl
theorem size_ok {w h : Nat} : sizeOkI w h = true ↔ ¬ (sizeOk w h = false ∨ KNOTS < w * h) := by
  simp only [sizeOkI, sizeOk, Bool.and_eq_true, decide_eq_true_eq, ← Bool.not_eq_true]
  have a : SIDE = 512 := rfl
  have b : KNOTS = 65536 := rfl
  rw [a, b]
  omega
/-- the end of round, when the bounds are kept -/
theorem round_told {kind : Int} {t s c : Chart} {cr : List (List Int)} (ht : t.right = true) (hs : s.right = true) (hb : inB kind s.wide s.high t.wide t.high = true) (hr : rightCorner kind cr s.high = true)
    (hc : kk kind = .set → c.right = true ∧ c.wide = s.high ∧ c.high = s.high ∧ cr = enc c) :
    RugDNeutral.shown (roundTold (kk kind) t s c) = if refusal kind (enc t) (enc s) cr < 0 then [refusal kind (enc t) (enc s) cr] else
      ((flat (rug (kk kind) s.wide s.high t.wide t.high (enc t) (enc s) cr)).length : Int) :: flat (rug (kk kind) s.wide s.high t.wide t.high (enc t) (enc s) cr) := by
  unfold refusal roundTold
  rw [enc_wide ht, enc_high ht, enc_wide hs, enc_high hs, if_neg (not_not_intro ⟨hb, hr⟩), comes_fits]
  cases e : comesOut kind s.wide s.high t.wide t.high with
  | false => rfl
  | true =>
    show RugDNeutral.shown (if sizeOk (t.wide + 2 * s.high) (t.high + 2 * s.high) = false ∨ KNOTS < (t.wide + 2 * s.high) * (t.high + 2 * s.high) then LARGE else whole (bordered (kk kind) t s c)) = if (if ¬ sizeOkI (t.wide + 2 * s.high) (t.high + 2 * s.high) = true then -8 else 0) < 0 then [if ¬ sizeOkI (t.wide + 2 * s.high) (t.high + 2 * s.high) = true then -8 else 0] else _
    by_cases z : sizeOkI (t.wide + 2 * s.high) (t.high + 2 * s.high) = true
    · rw [if_neg (size_ok.mp z), if_neg (not_not_intro z), shown_whole, rug_is ht hs hc]
      rfl
    · rw [if_pos (Decidable.not_not.mp (fun q => z (size_ok.mpr q))), if_pos z]
      rfl
theorem refusal_bad {kind : Int} {f s c : List (List Int)} (h : ¬ (inB kind (wideOf s) s.length (wideOf f) f.length = true ∧ rightCorner kind c s.length = true)) : refusal kind f s c = -1 := if_pos h
theorem one_is {n : Nat} (h : 1 ≤ n ∧ n ≤ 512) : sideI n = true := by
  unfold sideI
  rw [decide_eq_true h.1, decide_eq_true h.2] <;> rfl
theorem round_is {kind : Int} {t s c : List Int} (hk : 0 ≤ kind) (bt : bytesOk t) (bs : bytesOk s) (bc : bytesOk c) : PyWqbbch.round_of kind t s c = roundM kind t s c := by
  show RugDNeutral.shown (answer (.round (RugDNeutral.text t) (RugDNeutral.text s) (RugDNeutral.text c) kind.toNat)) = _
  unfold roundM answer
  simp only [text_len]
  have eT : TEXT = 66048 := rfl
  rw [eT]
  by_cases c0 : 66048 < t.length ∨ 66048 < s.length ∨ 66048 < c.length
  · rw [if_pos c0, if_pos c0]; rfl
  · rw [if_neg c0, if_neg c0]
    unfold ofChart
    simp only [text_len, eT]
    rw [if_neg (show ¬ 66048 < t.length by omega)]
    cases e1 : parse t with
    | none => rw [parse_none bt e1]; rfl
    | some f =>
    obtain ⟨T, hT, rT, rfl⟩ := parse_some e1
    rw [hT]
    simp only
    rw [if_neg (show ¬ 66048 < s.length by omega)]
    cases e2 : parse s with
    | none => rw [parse_none bs e2]; rfl
    | some g =>
    obtain ⟨S, hS, rS, rfl⟩ := parse_some e2
    rw [hS]
    simp only
    obtain ⟨T1, _⟩ := right_iff.mp rT
    obtain ⟨S1, _⟩ := right_iff.mp rS
    have wT := enc_wide rT
    have hTt := enc_high rT
    have wS := enc_wide rS
    have hSs := enc_high rS
    have bnd : kind ≤ 2 → S.high ≤ 128 → inB kind S.wide S.high T.wide T.high = true := by
      intro a b
      unfold inB
      rw [decide_eq_true a, decide_eq_true S1.2.2.1, decide_eq_true b, one_is ⟨S1.1, S1.2.1⟩, one_is ⟨T1.1, T1.2.1⟩, one_is T1.2.2] <;> rfl
    have nbnd : ¬ (kind ≤ 2 ∧ S.high ≤ 128) → ¬ inB kind S.wide S.high T.wide T.high = true := by
      intro a b
      unfold inB at b
      simp only [Bool.and_eq_true, decide_eq_true_eq] at b
      exact a ⟨b.1.1, b.1.2.2⟩
    have bad : ∀ {cr : List (List Int)} {z : List Int}, ¬ (inB kind S.wide S.high T.wide T.high = true ∧ rightCorner kind cr S.high = true) → [(-1 : Int)] = if refusal kind (enc T) (enc S) cr < 0 then [refusal kind (enc T) (enc S) cr] else z := by
      intro cr z hz
      have q : refusal kind (enc T) (enc S) cr = -1 := refusal_bad (by rw [wT, hTt, wS, hSs]; exact hz)
      rw [q]; rfl
    have eD : DEEP = 128 := rfl
    by_cases c1 : c = []
    · subst c1
      have tn : RugDNeutral.text [] = [] := rfl
      rw [tn, if_pos rfl]
      show _ = if refusal kind (enc T) (enc S) [] < 0 then _ else _
      unfold kindAt
      by_cases k0 : kind = 0
      · subst k0
        exact bad (by
          intro hh
          have := hh.2
          unfold rightCorner at this
          rw [if_neg (by decide)] at this
          simp only [Bool.and_eq_true, decide_eq_true_eq] at this
          have z : (0 : Nat) = S.high := this.1
          omega)
      · by_cases k1 : kind = 1
        · subst k1
          show RugDNeutral.shown (if DEEP < S.high then BAD else roundTold .met T S S) = _
          by_cases d : DEEP < S.high
          · rw [if_pos d]
            exact bad fun hh => nbnd (by omega) hh.1
          · rw [if_neg d]
            have z := round_told (kind := 1) (c := S) (cr := []) rT rS (bnd (by omega) (by omega)) rfl (fun h => by cases h)
            rw [wS, wT, hTt, hSs]
            exact z
        · by_cases k2 : kind = 2
          · subst k2
            show RugDNeutral.shown (if DEEP < S.high then BAD else roundTold .run T S S) = _
            by_cases d : DEEP < S.high
            · rw [if_pos d]
              exact bad fun hh => nbnd (by omega) hh.1
            · rw [if_neg d]
              have z := round_told (kind := 2) (c := S) (cr := []) rT rS (bnd (by omega) (by omega)) rfl (fun h => by cases h)
              rw [wS, wT, hTt, hSs]
              exact z
          · have e : kind.toNat = kind.toNat - 3 + 3 := by omega
            rw [e]
            exact bad fun hh => nbnd (by omega) hh.1
    · have tn : RugDNeutral.text c ≠ [] := by
        intro q
        have q2 := text_len c
        rw [q] at q2
        cases c with
        | nil => exact c1 rfl
        | cons a r => cases q2
      rw [if_neg tn, if_neg (show ¬ 66048 < c.length by omega)]
      have ec : cparse c = parse c := if_neg c1
      rw [ec]
      cases e3 : parse c with
      | none => rw [parse_none bc e3]; rfl
      | some g =>
      obtain ⟨C, hC, rC, rfl⟩ := parse_some e3
      rw [hC]
      simp only
      obtain ⟨C1, _⟩ := right_iff.mp rC
      have wC := enc_wide rC
      have hCc := enc_high rC
      have ne : (enc C).isEmpty = false := by
        cases e : enc C with
        | nil => rw [e] at hCc; have z : 0 = C.high := hCc; omega
        | cons => rfl
      unfold kindAt
      by_cases k0 : kind = 0
      · subst k0
        show RugDNeutral.shown (if DEEP < S.high ∨ C.wide ≠ S.high ∨ C.high ≠ S.high then BAD else roundTold .set T S C) = _
        by_cases d : DEEP < S.high ∨ C.wide ≠ S.high ∨ C.high ≠ S.high
        · rw [if_pos d]
          exact bad fun hh => by
            have r := hh.2
            unfold rightCorner at r
            rw [if_neg (by decide), wC, hCc] at r
            simp only [Bool.and_eq_true, decide_eq_true_eq] at r
            rcases d with d | d | d
            · exact nbnd (by omega) hh.1
            · exact d r.2
            · exact d r.1
        · rw [if_neg d]
          have d' : S.high ≤ 128 ∧ C.wide = S.high ∧ C.high = S.high := by omega
          have z := round_told (kind := 0) (c := C) (cr := enc C) rT rS (bnd (by omega) d'.1) (by
            unfold rightCorner
            rw [if_neg (by decide), wC, hCc, decide_eq_true d'.2.1, decide_eq_true d'.2.2] <;> rfl) (fun _ => ⟨rC, d'.2.1, d'.2.2, rfl⟩)
          rw [wS, wT, hTt, hSs]
          exact z
      · have nr : rightCorner kind (enc C) S.high = false := by
          unfold rightCorner
          rw [if_pos k0, ne]
        have hbad := bad (cr := enc C) (z := ((flat (rug (kk kind) (wideOf (enc S)) (enc S).length (wideOf (enc T)) (enc T).length (enc T) (enc S) (enc C))).length : Int) :: flat (rug (kk kind) (wideOf (enc S)) (enc S).length (wideOf (enc T)) (enc T).length (enc T) (enc S) (enc C))) (fun hh => by rw [nr] at hh; cases hh.2)
        refine Eq.trans ?_ hbad
        by_cases k1 : kind = 1
        · subst k1; rfl
        · by_cases k2 : kind = 2
          · subst k2; rfl
          · have e : kind.toNat = kind.toNat - 3 + 3 := by omega
            rw [e]; rfl
end RM
/-! ### the text by places -/
namespace RH
open PySem PySem.Spec PyProof.Rows L2
open PySem.W (Codec WData)
open RM
def top (i : Nat) : Stmt := PySem.Challenge.pw_rugborders_s02_round_of.main.body.getD i (.Pass ⟨0, 0, 0, 0⟩)
abbrev sLong : Stmt := top 5
abbrev sCol : Stmt := top 6
abbrev sSide : Stmt := top 7
abbrev sSize : Stmt := top 8
abbrev sIsCh : Stmt := top 9
abbrev sChart : Stmt := top 10
abbrev sDep : Stmt := top 22
abbrev sBord : Stmt := top 23
abbrev sInB : Stmt := top 24
abbrev sCorn : Stmt := top 27
abbrev sAlong : Stmt := top 26
abbrev sOut : Stmt := top 25
abbrev sRef : Stmt := top 28
abbrev sText : Stmt := top 11
abbrev sTold : Stmt := top 21
abbrev sSeen : Stmt := top 31
abbrev sKnot : Stmt := top 30
abbrev sRug : Stmt := top 29
abbrev sRound : Stmt := top 20
/-! ### charts in the heap -/
inductive RowsAt (H : Hp) : List Addr → List (List Int) → Prop
  | nil : RowsAt H [] []
  | cons {a : Addr} {r : List Int} {as : List Addr} {rs : List (List Int)} : H a = some (.lst (r.map V.int)) → RowsAt H as rs → RowsAt H (a :: as) (r :: rs)
theorem RowsAt.len {H : Hp} : ∀ {as : List Addr} {rs : List (List Int)}, RowsAt H as rs → as.length = rs.length
  | _, _, .nil => rfl
  | _, _, .cons _ h => congrArg (· + 1) h.len
theorem RowsAt.same {H H' : Hp} (s : Same H H') : ∀ {as : List Addr} {rs : List (List Int)}, RowsAt H as rs → RowsAt H' as rs
  | _, _, .nil => .nil
  | _, _, .cons e h => .cons (s _ _ e) (h.same s)
theorem RowsAt.push {H : Hp} {a : Addr} {r : List Int} (e : H a = some (.lst (r.map V.int))) : ∀ {as : List Addr} {rs : List (List Int)}, RowsAt H as rs → RowsAt H (as ++ [a]) (rs ++ [r])
  | _, _, .nil => .cons e .nil
  | _, _, .cons e' h => .cons e' (h.push e)
theorem RowsAt.upd {H : Hp} {p : Addr} {o : HO} : ∀ {as : List Addr} {rs : List (List Int)}, RowsAt H as rs → p ∉ as → RowsAt (upd H p o) as rs
  | _, _, .nil, _ => .nil
  | _, _, .cons e h, n => .cons (by rw [upd_ne (fun z => n (by rw [z]; exact List.mem_cons_self ..))]; exact e) (h.upd fun z => n (List.mem_cons_of_mem _ z))
theorem RowsAt.get {H : Hp} : ∀ {as : List Addr} {rs : List (List Int)} {i : Nat} {a : Addr}, RowsAt H as rs → as[i]? = some a → ∃ r, rs[i]? = some r ∧ H a = some (.lst (r.map V.int))
  | _, _, i, a, .nil, h => by simp at h
  | _, _, 0, a, .cons e _, h => by
    have z := Option.some.inj h
    subst z
    exact ⟨_, rfl, e⟩
  | _, _, i + 1, a, .cons _ h', h => RowsAt.get (i := i) h' h
theorem RowsAt.mem {H : Hp} : ∀ {as : List Addr} {rs : List (List Int)} {a : Addr}, RowsAt H as rs → a ∈ as → ∃ o, H a = some o
  | _, _, a, .nil, h => by cases h
  | _, _, a, .cons e h', h => by
    rcases List.mem_cons.mp h with z | z
    · subst z
      exact ⟨_, e⟩
    · exact h'.mem z
def ChartAt (H : Hp) (a : Addr) (rs : List (List Int)) : Prop := ∃ as : List Addr, H a = some (.lst (as.map V.ref)) ∧ RowsAt H as rs
theorem ChartAt.same {H H' : Hp} (s : Same H H') {a : Addr} {rs : List (List Int)} (h : ChartAt H a rs) : ChartAt H' a rs := by
  obtain ⟨as, e, r⟩ := h
  exact ⟨as, s _ _ e, r.same s⟩
theorem same_new {H : Hp} {p : Addr} (h : H p = none) (o : HO) : Same H (upd H p o) := fun b u q => by rw [upd_ne (ne_of_none q h)]; exact q
/-- what was tracked at first stands, though an object made since is changed -/
theorem same_put {H H' : Hp} {p : Addr} (s : Same H H') (h : H p = none) (o : HO) : Same H (upd H' p o) := fun b u q => by rw [upd_ne (ne_of_none q h)]; exact s b u q
theorem map_at {α : Type} {f : α → V} {l : List α} {i : Nat} {y : V} (hi : (l.map f)[i]? = some y) : ∃ z, l[i]? = some z ∧ y = f z := by
  rw [List.getElem?_map] at hi
  cases e : l[i]? with
  | none => rw [e] at hi; cases hi
  | some z => rw [e] at hi; exact ⟨z, rfl, (Option.some.inj hi).symm⟩
theorem drop_at {α : Type} {l : List α} {i : Nat} {z : α} (h : l[i]? = some z) : l.drop i = z :: l.drop (i + 1) := by
  obtain ⟨hi, e⟩ := List.getElem?_eq_some_iff.mp h
  rw [← e]
  exact List.drop_eq_getElem_cons hi
/-! ### numbers -/
def sideZ (n : Int) : Bool := decide (1 ≤ n) && decide (n ≤ 512)
def sizeZ (w h : Int) : Bool := sideZ w && (sideZ h && decide (w * h ≤ 65536))
def inZ (kind L h W Hh : Int) : Bool := (decide (kind ≤ 2) && (decide (1 ≤ h) && decide (h ≤ 128))) && (sideZ L && (sideZ W && sideZ Hh))
def outZ (kind L h W Hh : Int) : Bool := if kind = 0 then decide (W % L = 0) && decide (Hh % L = 0) else if kind = 1 then decide ((W + 2 * h) % (2 * L) = 0) && decide ((Hh + 2 * h) % (2 * L) = 0) else decide ((W + h) % L = 0) && decide ((Hh + h) % L = 0)
theorem side_nat (n : Nat) : sideZ (n : Int) = sideI n := by
  rw [Bool.eq_iff_iff]
  simp only [sideZ, sideI, Bool.and_eq_true, decide_eq_true_eq]
  omega
theorem size_nat (w h : Nat) : sizeZ (w : Int) (h : Int) = sizeOkI w h := by
  have e : ((w : Int) * (h : Int) ≤ 65536) ↔ w * h ≤ 65536 := by
    rw [← Int.natCast_mul]
    omega
  rw [Bool.eq_iff_iff]
  simp only [sizeZ, sizeOkI, sideZ, Bool.and_eq_true, decide_eq_true_eq, e]
  omega
theorem in_nat (kind : Int) (L h W Hh : Nat) : inZ kind L h W Hh = inB kind L h W Hh := by
  rw [Bool.eq_iff_iff]
  simp only [inZ, inB, sideZ, sideI, Bool.and_eq_true, decide_eq_true_eq]
  omega
theorem mod_nat (a b : Nat) : decide (((a : Nat) : Int) % ((b : Nat) : Int) = 0) = decide (a % b = 0) := by
  rw [← Int.natCast_emod]
  rw [Bool.eq_iff_iff]
  simp only [decide_eq_true_eq]
  omega
theorem out_nat (kind : Int) (L h W Hh : Nat) : outZ kind L h W Hh = comesOut kind L h W Hh := by
  unfold outZ comesOut
  have e1 : ((W : Int) + 2 * (h : Int)) = ((W + 2 * h : Nat) : Int) := by omega
  have e2 : ((Hh : Int) + 2 * (h : Int)) = ((Hh + 2 * h : Nat) : Int) := by omega
  have e3 : (2 * (L : Int)) = ((2 * L : Nat) : Int) := by omega
  have e4 : ((W : Int) + (h : Int)) = ((W + h : Nat) : Int) := by omega
  have e5 : ((Hh : Int) + (h : Int)) = ((Hh + h : Nat) : Int) := by omega
  rw [e1, e2, e3, e4, e5]
  simp only [mod_nat]
theorem pe_gi {X : Cx} {x : Str} {i : Int} {t : Tok} {pos : Pos} (hg : Gl X x) (hm : X.mg x = some (.int i t)) (hd : (x == ("__debug__" : Str)) = false := by decide) : PE X (.Name x pos) (tC (.int i)) := pe_glob (v := .int i) hg hm ⟨t, rfl⟩ hd
theorem dvi (a b : Int) : decide (V.int a = V.int b) = decide (a = b) := by
  rw [Bool.eq_iff_iff]
  simp only [decide_eq_true_eq]
  exact ⟨fun h => V.int.inj h, fun h => congrArg V.int h⟩
theorem bl_of {Q : VK} {H : Hp} {c d : Bool} (q : Q (.bl c) H) (e : c = d) : Q (.bl d) H := e ▸ q
theorem at_zero {α : Type} (x : α) (l : List α) : atI (x :: l) 0 = some x := atI_nat (j := 0) rfl
theorem line_small {n : Nat} (h : n ≤ 1000000) : n < sizeLine := Nat.lt_of_le_of_lt h (by rw [sizeLine_eq]; decide)
theorem take_more {α : Type} {l : List α} {i : Nat} {x : α} (h : l[i]? = some x) : l.take (i + 1) = l.take i ++ [x] := by
  rw [List.take_add_one, h]
  rfl
theorem PE.weak {X : Cx} {e : Expr} {t t' : TE} (h : PE X e t) (w : ∀ σ H Q, t' σ H Q → t σ H Q) : PE X e t' := ⟨fun pins s σ H Q I hw => h.run pins s σ H Q I (w σ H Q hw)⟩
theorem se_name (x : Str) (p : Pos) (es : List Expr) (env : Env) : starEach (.Name x p :: es) env = (false, eval (.Name x p) env) :: starEach es env := rfl
theorem pn {X : Cx} (i : Nat) {x : Str} {p : Pos} {es : List Expr} {t : TA} (hr : PA X es t) (hN : X.N[i]? = some x := by rfl) (hv : Vis X.env.scope x := by first | exact Or.inl rfl | exact Or.inr (Or.inl rfl) | exact Or.inr (Or.inr rfl)) (hd : (x == ("__debug__" : Str)) = false := by decide)
    (hcd : (x == ("__classdict__" : Str)) = false := by decide) : PA X (.Name x p :: es) (tCons (tVar i) t) := pa_cons (pe_var hN hv hd hcd) hr (se_name _ _ _ _)
structure Defs (K : PySem.W.Frag) (P : Program) (w : World) (mg : Str → Option Value) (base : Heap) (k : Nat) (x : Str) (ps : List Str) (sp : Sp) (f : Addr) (fd : FuncData) : Prop where
  G : FnOk P w K mg base CX0 k f fd ps sp
  b : Binds K fd ps []
  kp : PySem.W.keepIn K (.ref f) = true
  m : mg x = some (.ref f)
theorem PT.weak {X : Cx} {e : Expr} {t t' : TT} (h : PT X e t) (w : ∀ σ H Q, t' σ H Q → t σ H Q) : PT X e t' := ⟨fun pins s σ H Q I hw => h.run pins s σ H Q I (w σ H Q hw)⟩
theorem at_one {α : Type} (x y : α) (l : List α) : atI (x :: y :: l) 1 = some y := atI_nat (j := 1) rfl
theorem at_two {α : Type} (x y z : α) (l : List α) : atI (x :: y :: z :: l) 2 = some z := atI_nat (j := 2) rfl
section
variable {P : Program} {w : World} {K : PySem.W.Frag} {mg : Str → Option Value} {base : Heap} {f : Addr} {fd : FuncData}
def spLong (K : PySem.W.Frag) : Sp := fun vs H Q _ => ∃ (a : Addr) (xs : List V), vs = [.ref a] ∧ SqL K H a xs ∧ Q (.bl (decide ((66048 : Int) < (xs.length : Nat)))) H
theorem scLong : FnScope ["text"] ["text"] (defScope sLong) := ⟨rfl, rfl, rfl, by decide +kernel, rfl, by decide +kernel, by decide +kernel⟩
theorem ok_long {t : Tok} (F : Fun K "is_too_long" "is_too_long" sLong f fd) (ml : mg "len" = none) (mB : mg "MOST_BYTES" = some (.int 66048 t)) : FnOk P w K mg base CX0 1 f fd ["text"] (spLong K) := by
  refine F.ok scLong (fun vs H Q E h => ?_) (fun cdv A outer s H vs Q E hr h => ?_)
  · obtain ⟨a, xs, rfl, _⟩ := h
    rfl
  obtain ⟨a, xs, rfl, hS, q⟩ := h
  refine ⟨_, pss_one (ps_ret (pe_cmpR op_gt (pe_callB call_len_seq rfl ml PySem.boot_len (pa_cons (pv 0) pa_nil)) (pe_gi rfl mB) (nomark _))), ?_⟩
  exact ⟨_, rfl, a, _, rfl, .inl hS, _, _, rfl, rfl, q⟩
theorem long_iff {xs : List Int} : decide ((66048 : Int) < (((xs.map V.int).length : Nat) : Int)) = decide (66048 < xs.length) := by
  rw [List.length_map, Bool.eq_iff_iff]
  simp only [decide_eq_true_eq]
  omega
def spCol : Sp := fun vs H Q _ => ∃ b : Int, vs = [.int b] ∧ Q (.bl (isCol b)) H
theorem scCol : FnScope ["byte"] ["byte"] (defScope sCol) := ⟨rfl, rfl, rfl, by decide +kernel, rfl, by decide +kernel, by decide +kernel⟩
theorem col_of {b : Int} {c : Bool} {Q : VK} {H : Hp} (q : Q (.bl (isCol b)) H) (e : isCol b = true ↔ c = true) : Q (.bl c) H := by
  rw [← Bool.eq_iff_iff.mpr e]
  exact q
theorem isCol_iff {b : Int} : isCol b = true ↔ (97 ≤ b ∧ b ≤ 122) ∨ (65 ≤ b ∧ b ≤ 90) ∨ (48 ≤ b ∧ b ≤ 57) := by
  simp only [isCol, Bool.or_eq_true, Bool.and_eq_true, decide_eq_true_eq]
theorem ok_col (F : Fun K "is_colour" "is_colour" sCol f fd) : FnOk P w K mg base CX0 1 f fd ["byte"] spCol := by
  refine F.ok scCol (fun vs H Q E h => ?_) (fun cdv A outer s H vs Q E hr h => ?_)
  · obtain ⟨b, rfl, _⟩ := h
    rfl
  obtain ⟨b, rfl, q⟩ := h
  refine ⟨_, pss_one (ps_ret (pe_or (pe_chain op_le op_le pe_int (pv 0) pe_int) (pe_or (pe_chain op_le op_le pe_int (pv 0) pe_int) (pe_one (pe_chain op_le op_le pe_int (pv 0) pe_int))))), ?_⟩
  have last : ∀ c : Bool, (isCol b = true ↔ c = true) → Q (.bl c) H := fun c e => col_of q e
  have dd : ∀ {p : Prop} [Decidable p], (decide p = true) ↔ p := fun {p} _ => decide_eq_true_iff
  -- a chain: ahead of its end
  refine ⟨_, rfl, _, _, rfl, rfl, _, rfl, ite2 (fun c => ?_) (fun c => ?_)⟩
  · have c := of_decide_eq_true c
    refine ⟨_, _, rfl, rfl, _, rfl, ite2 (fun d => ?_) (fun d => ?_)⟩
    · have d := of_decide_eq_true d
      exact last true ⟨fun _ => rfl, fun _ => isCol_iff.mpr (by omega)⟩
    · have d : ¬ b ≤ 122 := fun z => d (decide_eq_true z)
      refine ⟨_, rfl, _, _, rfl, rfl, _, rfl, ite2 (fun c2 => ?_) (fun c2 => ?_)⟩
      · refine ⟨_, _, rfl, rfl, _, rfl, ite2 (fun d2 => ?_) (fun d2 => ?_)⟩
        · have d2 : b ≤ 90 := of_decide_eq_true d2
          omega
        · refine ⟨_, rfl, _, _, rfl, rfl, _, rfl, ite2 (fun c3 => ?_) (fun c3 => ?_)⟩
          · refine ⟨_, _, rfl, rfl, ?_⟩
            exact last _ (by rw [isCol_iff, dd]; omega)
          · have c3 : ¬ 48 ≤ b := fun z => c3 (decide_eq_true z)
            omega
      · have c2 : ¬ 65 ≤ b := fun z => c2 (decide_eq_true z)
        omega
  · have c : ¬ 97 ≤ b := fun z => c (decide_eq_true z)
    refine ⟨_, rfl, iteF ?_⟩
    refine ⟨_, rfl, _, _, rfl, rfl, _, rfl, ite2 (fun c2 => ?_) (fun c2 => ?_)⟩
    · have c2 : 65 ≤ b := of_decide_eq_true c2
      refine ⟨_, _, rfl, rfl, _, rfl, ite2 (fun d2 => ?_) (fun d2 => ?_)⟩
      · have d2 : b ≤ 90 := of_decide_eq_true d2
        exact last true ⟨fun _ => rfl, fun _ => isCol_iff.mpr (by omega)⟩
      · have d2 : ¬ b ≤ 90 := fun z => d2 (decide_eq_true z)
        refine ⟨_, rfl, _, _, rfl, rfl, _, rfl, ite2 (fun c3 => ?_) (fun c3 => ?_)⟩
        · refine ⟨_, _, rfl, rfl, ?_⟩
          exact last _ (by rw [isCol_iff, dd]; omega)
        · have c3 : ¬ 48 ≤ b := fun z => c3 (decide_eq_true z)
          omega
    · have c2 : ¬ 65 ≤ b := fun z => c2 (decide_eq_true z)
      refine ⟨_, rfl, iteF ?_⟩
      refine ⟨_, rfl, _, _, rfl, rfl, _, rfl, ite2 (fun c3 => ?_) (fun c3 => ?_)⟩
      · have c3 : 48 ≤ b := of_decide_eq_true c3
        refine ⟨_, _, rfl, rfl, ?_⟩
        exact last _ (by rw [isCol_iff, dd]; omega)
      · have c3 : ¬ 48 ≤ b := fun z => c3 (decide_eq_true z)
        exact last _ (by rw [isCol_iff]; simp only [Bool.false_eq_true, iff_false]; omega)
def spSide : Sp := fun vs H Q _ => ∃ n : Int, vs = [.int n] ∧ Q (.bl (sideZ n)) H
theorem scSide : FnScope ["number"] ["number"] (defScope sSide) := ⟨rfl, rfl, rfl, by decide +kernel, rfl, by decide +kernel, by decide +kernel⟩
theorem ok_side {t : Tok} (F : Fun K "is_side" "is_side" sSide f fd) (mS : mg "MOST_SIDE" = some (.int 512 t)) : FnOk P w K mg base CX0 1 f fd ["number"] spSide := by
  refine F.ok scSide (fun vs H Q E h => ?_) (fun cdv A outer s H vs Q E hr h => ?_)
  · obtain ⟨b, rfl, _⟩ := h
    rfl
  obtain ⟨b, rfl, q⟩ := h
  refine ⟨_, pss_one (ps_ret (pe_chain op_le op_le pe_int (pv 0) (pe_gi rfl mS))), ?_⟩
  unfold sideZ at q
  refine ⟨_, rfl, _, _, rfl, rfl, _, rfl, ite2 (fun c => ?_) (fun c => ?_)⟩
  · rw [c] at q
    exact ⟨_, _, rfl, rfl, q⟩
  · rw [Bool.eq_false_iff.mpr c] at q
    exact q
def spSize : Sp := fun vs H Q _ => ∃ w h : Int, vs = [.int w, .int h] ∧ Q (.bl (sizeZ w h)) H
theorem scSize : FnScope ["width", "height"] ["width", "height"] (defScope sSize) := ⟨rfl, rfl, rfl, by decide +kernel, rfl, by decide +kernel, by decide +kernel⟩
theorem ok_size {t : Tok} {fS : Addr} {fdS : FuncData} (F : Fun K "is_chart_size" "is_chart_size" sSize f fd) (G : FnOk P w K mg base CX0 1 fS fdS ["number"] spSide) (bS : Binds K fdS ["number"] []) (kS : PySem.W.keepIn K (.ref fS) = true) (mS : mg "is_side" = some (.ref fS)) (mK : mg "MOST_KNOTS" = some (.int 65536 t)) : FnOk P w K mg base CX0 2 f fd ["width", "height"] spSize := by
  refine F.ok scSize (fun vs H Q E h => ?_) (fun cdv A outer s H vs Q E hr h => ?_)
  · obtain ⟨a, b, rfl, _⟩ := h
    rfl
  obtain ⟨a, b, rfl, q⟩ := h
  refine ⟨_, pss_one (ps_ret (pe_and (pe_call G hr rfl mS kS bS .nil pass0 (pa_cons (pv 0) pa_nil)) (pe_and (pe_call G hr rfl mS kS bS .nil pass0 (pa_cons (pv 1) pa_nil)) (pe_one (pe_cmpR op_le (pe_op op_mul (pv 0) (pv 1)) (pe_gi rfl mK) (nomark _)))))), ?_⟩
  unfold sizeZ at q
  refine ⟨_, rfl, a, rfl, _, rfl, ite2 (fun c => ?_) (fun c => ?_)⟩
  · rw [c] at q
    refine ⟨_, rfl, b, rfl, _, rfl, ite2 (fun d => ?_) (fun d => ?_)⟩
    · rw [d] at q
      have c' : 1 ≤ a ∧ a ≤ 512 := by simpa only [sideZ, Bool.and_eq_true, decide_eq_true_eq] using c
      exact ⟨_, rfl, _, rfl, _, _, rfl, rfl, .inl ⟨by omega, by omega⟩, _, _, rfl, rfl, q⟩
    · rw [Bool.eq_false_iff.mpr d] at q
      exact q
  · rw [Bool.eq_false_iff.mpr c] at q
    exact q
def spIsCh (K : PySem.W.Frag) : Sp := fun vs H Q _ => ∃ (a : Addr) (as : List Addr) (rs : List (List Int)), vs = [.ref a] ∧ SqL K H a (as.map V.ref) ∧ RowsAt H as rs ∧ Q (.bl (isChart rs)) H
theorem scIsCh : FnScope ["rows", "width", "row"] ["rows"] (defScope sIsCh) := ⟨rfl, rfl, rfl, by decide +kernel, rfl, by decide +kernel, by decide +kernel⟩
theorem ok_isCh {fS : Addr} {fdS : FuncData} (F : Fun K "is_chart" "is_chart" sIsCh f fd) (G : FnOk P w K mg base CX0 2 fS fdS ["width", "height"] spSize) (bS : Binds K fdS ["width", "height"] []) (kS : PySem.W.keepIn K (.ref fS) = true) (mS : mg "is_chart_size" = some (.ref fS)) (ml : mg "len" = none) :
    FnOk P w K mg base CX0 3 f fd ["rows"] (spIsCh K) := by
  refine F.ok scIsCh (fun vs H Q E h => ?_) (fun cdv A outer s H vs Q E hr h => ?_)
  · obtain ⟨a, as, rs, rfl, _⟩ := h
    rfl
  obtain ⟨a, as, rs, rfl, hS, hR, q⟩ := h
  refine ⟨_, pss_cons (ps_if (pt_not (pt_truth (pv 0) (by intro _; rfl))) (pss_one (ps_ret pe_bl)) pss_nil)
    (pss_cons (ps_set (i := 1) scIsCh.nd rfl (.inl rfl) (pe_callB call_len_seq rfl ml PySem.boot_len (pa_cons (pe_ix ix_list (pv 0) pe_int (fun _ _ => rfl)) pa_nil)))
    (pss_cons (ps_for PassesOwn.never rfl (pi_list (pv 0)) (pg_name (i := 2) scIsCh.nd rfl (.inl rfl)) (pss_one (ps_if (pt_cmpR op_ne (pe_callB call_len_seq rfl ml PySem.boot_len (pa_cons (pv 2) pa_nil)) (pv 1) (nomark _)) (pss_one (ps_ret pe_bl)) pss_nil)))
    (pss_one (ps_ret (pe_call G hr rfl mS kS bS .nil pass0 (pa_cons (pv 1) (pa_cons (pe_callB call_len_seq rfl ml PySem.boot_len (pa_cons (pv 0) pa_nil)) pa_nil))))))), ?_⟩
  have hl := hR.len
  refine ⟨_, rfl, _, .inl ⟨_, hS, rfl⟩, ?_⟩
  cases hR with
  | nil => exact iteT q
  | cons e0 hR' =>
  rename_i a0 r0 as' rs'
  refine iteF ?_
  refine ⟨_, rfl, a, _, 0, .ref a0, rfl, rfl, hS, at_zero _ _, a0, _, rfl, .inl (SqL.of e0), ?_⟩
  have hRR : RowsAt H (a0 :: as') (r0 :: rs') := .cons e0 hR'
  have e0l : (r0.map V.int).length = r0.length := List.length_map _
  refine ⟨_, rfl, a, rfl, ⟨_, hS⟩, for_list (K := K) (a := a) (xs := (a0 :: as').map V.ref) (fun i σ H' => ∃ v : Option V, σ = [some (.ref a), some (.int (r0.length : Nat)), v] ∧ H' = H ∧ ∀ j r, j < i → (r0 :: rs')[j]? = some r → r.length = r0.length)
    ⟨none, by rw [e0l]; rfl, rfl, fun j r hj => absurd hj (Nat.not_lt_zero _)⟩ (fun i σ H' _ ⟨_, _, e, _⟩ => by rw [e]; exact hS) ?_ ?_⟩
  · rintro i y σ H' hi ⟨v, rfl, rfl, hall⟩
    obtain ⟨b, hb, rfl⟩ := map_at hi
    obtain ⟨r, hr1, hr2⟩ := hRR.get hb
    have erl : (r.map V.int).length = r.length := List.length_map _
    refine ⟨_, rfl, b, _, rfl, .inl (SqL.of hr2), _, rfl, rfl, _, rfl, ?_⟩
    rw [dvi, erl]
    by_cases c : r.length = r0.length
    · rw [decide_eq_true (show ((r.length : Nat) : Int) = ((r0.length : Nat) : Int) by omega)]
      refine iteF ⟨some (.ref b), rfl, rfl, fun j r' hj hr' => ?_⟩
      by_cases hji : j = i
      · subst hji
        rw [hr1] at hr'
        cases hr'
        exact c
      · exact hall j r' (by omega) hr'
    · rw [decide_eq_false (show ¬ ((r.length : Nat) : Int) = ((r0.length : Nat) : Int) by omega)]
      refine iteT ?_
      refine bl_of q ?_
      unfold isChart
      have z : (r0 :: rs').all (fun r => decide (r.length = wideOf (r0 :: rs'))) = false := by
        rw [Bool.eq_false_iff]
        intro z
        rw [List.all_eq_true] at z
        have := z r (List.mem_of_getElem? hr1)
        exact c (of_decide_eq_true this)
      rw [z, Bool.and_false, Bool.false_and]
  · rintro σ H' ⟨v, rfl, rfl, hall⟩
    refine ⟨_, rfl, _, rfl, a, _, rfl, .inl hS, (r0.length : Nat), _, rfl, ?_⟩
    have z : (r0 :: rs').all (fun r => decide (r.length = wideOf (r0 :: rs'))) = true := by
      rw [List.all_eq_true]
      intro r hr'
      obtain ⟨j, hj⟩ := List.getElem?_of_mem hr'
      have hjl : j < (r0 :: rs').length := (List.getElem?_eq_some_iff.mp hj).1
      exact decide_eq_true (hall j r (by rw [List.length_map, hl]; exact hjl) hj)
    refine bl_of q ?_
    unfold isChart
    rw [z, List.length_map, hl, size_nat]
    rfl
/-! ### chart_of -/
/-- what a text's reading hands back: None, or a chart -/
def OptCh (H : Hp) (x : V) (o : Option (List (List Int))) : Prop := (x = .non ∧ o = none) ∨ ∃ p rs, x = .ref p ∧ o = some rs ∧ ChartAt H p rs
theorem OptCh.same {H H' : Hp} (s : Same H H') {x : V} {o : Option (List (List Int))} (h : OptCh H x o) : OptCh H' x o := by
  rcases h with h | ⟨p, rs, e1, e2, c⟩
  · exact .inl h
  · exact .inr ⟨p, rs, e1, e2, c.same s⟩
def spChart (K : PySem.W.Frag) : Sp := fun vs H Q _ => ∃ (a : Addr) (ns : List Int), vs = [.ref a] ∧ SqL K H a (ns.map V.int) ∧ ns.length ≤ 66048 ∧ ∀ x H', Same H H' → OptCh H' x (parse ns) → Q x H'
structure ReadAt (H H' : Hp) (pr pq : Addr) (rows : List (List Int)) (row : List Int) : Prop where
  same : Same H H'
  nr : H pr = none
  nq : H pq = none
  ne : pr ≠ pq
  ch : ∃ as : List Addr, H' pr = some (.lst (as.map V.ref)) ∧ RowsAt H' as rows ∧ pq ∉ as ∧ pr ∉ as
  at_ : H' pq = some (.lst (row.map V.int))
theorem scChart : FnScope ["text", "rows", "row", "byte"] ["text"] (defScope sChart) := ⟨rfl, rfl, rfl, by decide +kernel, rfl, by decide +kernel, by decide +kernel⟩
theorem ok_chart {t : Tok} {fC fI : Addr} {fdC fdI : FuncData} (F : Fun K "chart_of" "chart_of" sChart f fd) (GC : FnOk P w K mg base CX0 1 fC fdC ["byte"] spCol) (bC : Binds K fdC ["byte"] []) (kC : PySem.W.keepIn K (.ref fC) = true) (mC : mg "is_colour" = some (.ref fC))
    (GI : FnOk P w K mg base CX0 3 fI fdI ["rows"] (spIsCh K)) (bI : Binds K fdI ["rows"] []) (kI : PySem.W.keepIn K (.ref fI) = true) (mI : mg "is_chart" = some (.ref fI)) (mE : mg "ROW_END" = some (.int 10 t)) :
    FnOk P w K mg base CX0 4 f fd ["text"] (spChart K) := by
  refine F.ok scChart (fun vs H Q E h => ?_) (fun cdv A outer s H vs Q E hr h => ?_)
  · obtain ⟨a, ns, rfl, _⟩ := h
    rfl
  obtain ⟨a, ns, rfl, hS, hlen, q⟩ := h
  have qN : parse ns = none → ∀ H', Same H H' → Q .non H' := fun e H' s => q _ _ s (.inl ⟨rfl, e⟩)
  have qS : ∀ rs, parse ns = some rs → ∀ p H', Same H H' → ChartAt H' p rs → Q (.ref p) H' := fun rs e p H' s c => q _ _ s (.inr ⟨p, rs, rfl, e, c⟩)
  have hr1 : Room 1 _ := hr.mono (by decide)
  refine ⟨_, pss_cons (ps_set (i := 1) scChart.nd rfl (.inl rfl) (pe_lst pa_nil)) (pss_cons (ps_set (i := 2) scChart.nd rfl (.inl rfl) (pe_lst pa_nil))
    (pss_cons (ps_for PassesOwn.never rfl (pi_list (pv 0)) (pg_name (i := 3) scChart.nd rfl (.inl rfl))
      (pss_one (ps_if (pt_cmpR op_eq (pv 3) (pe_gi rfl mE) (nomark _))
        (pss_cons (ps_expr (pe_bm PySem.F.plainAttrs_list PySem.F.slot_list_append PySem.F.type_list_append mt_append (pv 1) (pa_cons (pv 2) pa_nil))) (pss_one (ps_set (i := 2) scChart.nd rfl (.inl rfl) (pe_lst pa_nil))))
        (pss_one (ps_if (pt_val (pe_call GC hr1 rfl mC kC bC .nil pass0 (pa_cons (pv 3) pa_nil))) (pss_one (ps_expr (pe_bm PySem.F.plainAttrs_list PySem.F.slot_list_append PySem.F.type_list_append mt_append (pv 2) (pa_cons (pv 3) pa_nil)))) (pss_one (ps_ret pe_non)))))))
    (pss_cons (ps_if (PW.pt (pw_or (pt_truth (pv 2) (by intro _; rfl)) (pw_or1 (pt_not (pt_val (pe_call GI hr rfl mI kI bI .nil pass0 (pa_cons (pv 1) pa_nil))))))) (pss_one (ps_ret pe_non)) pss_nil)
    (pss_one (ps_ret (pv 1)))))), ?_⟩
  refine ⟨(by show 0 ≤ sizeLine; decide), fun pr hpr => ⟨(by show 0 ≤ sizeLine; decide), fun pq hpq => ?_⟩⟩
  have nrq : pr ≠ pq := ne_of_none upd_same hpq
  have hpq0 : H pq = none := by rw [upd_ne (Ne.symm nrq)] at hpq; exact hpq
  have s0 : Same H (upd (upd H pr (.lst [])) pq (.lst [])) := (same_new hpr _).trans (same_new hpq _)
  refine ⟨_, rfl, a, rfl, ⟨_, s0.seq hS⟩, for_list (K := K) (a := a) (xs := ns.map V.int) (fun i σ H' => ∃ (pq : Addr) (v : Option V) (rows : List (List Int)) (row : List Int), σ = [some (.ref a), some (.ref pr), some (.ref pq), v] ∧ ReadAt H H' pr pq rows row ∧ rows.length ≤ i ∧ row.length ≤ i ∧ parseGo ns [] [] = parseGo (ns.drop i) rows row)
    ⟨pq, none, [], [], rfl, ⟨s0, hpr, hpq0, nrq, ⟨[], by rw [upd_ne nrq]; exact upd_same, .nil, by simp, by simp⟩, upd_same⟩, Nat.le_refl _, Nat.le_refl _, by rw [List.drop_zero]⟩
    (fun i σ H' _ ⟨_, _, _, _, _, R, _⟩ => R.same.seq hS) ?_ ?_⟩
  · rintro i y σ H' hi ⟨pq, v, rows, row, rfl, R, hz1, hz2, hp⟩
    obtain ⟨b, hb, rfl⟩ := map_at hi
    have hil : i < ns.length := (List.getElem?_eq_some_iff.mp hb).1
    rw [drop_at hb] at hp
    obtain ⟨as, c1, c2, c3, c4⟩ := R.ch
    have al := c2.len
    refine ⟨_, rfl, rfl, _, rfl, ?_⟩
    rw [dvi]
    by_cases d : b = 10
    · rw [decide_eq_true d]
      refine iteT ?_
      refine ⟨_, rfl, .inl ⟨rfl, _, SqL.of c1⟩, _, rfl, pr, _, _, rfl, rfl, c1, (by rw [List.length_map, al]; exact line_small (by omega)), (by show 0 ≤ sizeLine; decide), fun pn hpn => ?_⟩
      have npr : pr ≠ pn := ne_of_none upd_same hpn
      have hpn' : H' pn = none := by rw [upd_ne (Ne.symm npr)] at hpn; exact hpn
      refine ⟨pn, some (.int b), rows ++ [row], [], rfl, ⟨(same_put R.same R.nr _).trans (same_new hpn _), R.nr, R.same.free hpn', npr, ⟨as ++ [pq], ?_, ?_, ?_, ?_⟩, upd_same⟩, by rw [List.length_append, List.length_singleton]; omega, Nat.zero_le _, ?_⟩
      · rw [upd_ne npr, upd_same, List.map_append]
        rfl
      · refine ((c2.push R.at_).upd ?_).upd ?_
        · intro z
          rcases List.mem_append.mp z with z | z
          · exact c4 z
          · exact R.ne (List.mem_singleton.mp z)
        · intro z
          rcases List.mem_append.mp z with z | z
          · obtain ⟨o, ho⟩ := c2.mem z
            rw [ho] at hpn'; cases hpn'
          · rw [List.mem_singleton.mp z] at hpn'
            rw [R.at_] at hpn'; cases hpn'
      · intro z
        rcases List.mem_append.mp z with z | z
        · obtain ⟨o, ho⟩ := c2.mem z
          rw [ho] at hpn'; cases hpn'
        · rw [List.mem_singleton.mp z, R.at_] at hpn'; cases hpn'
      · intro z
        rcases List.mem_append.mp z with z | z
        · exact c4 z
        · exact R.ne (List.mem_singleton.mp z)
      · rw [hp]
        show (if b = 10 then parseGo (ns.drop (i + 1)) (rows ++ [row]) [] else _) = _
        rw [if_pos d]
    · rw [decide_eq_false d]
      refine iteF ?_
      refine ⟨_, rfl, b, rfl, _, rfl, ite2 (fun c => ?_) (fun c => ?_)⟩
      · refine ⟨_, rfl, .inl ⟨rfl, _, SqL.of R.at_⟩, _, rfl, pq, _, _, rfl, rfl, R.at_, (by rw [List.length_map]; exact line_small (by omega)), ?_⟩
        refine ⟨pq, some (.int b), rows, row ++ [b], rfl, ⟨same_put R.same R.nq _, R.nr, R.nq, R.ne, ⟨as, ?_, c2.upd c3, c3, c4⟩, ?_⟩, by omega, by rw [List.length_append, List.length_singleton]; omega, ?_⟩
        · rw [upd_ne R.ne]; exact c1
        · rw [upd_same, List.map_append]; rfl
        · rw [hp]
          show (if b = 10 then _ else if isCol b = true then parseGo (ns.drop (i + 1)) rows (row ++ [b]) else none) = _
          rw [if_neg d, if_pos c]
      · refine qN ?_ H' R.same
        unfold parse
        rw [hp]
        show (match (if b = 10 then parseGo (ns.drop (i + 1)) (rows ++ [row]) [] else if isCol b = true then parseGo (ns.drop (i + 1)) rows (row ++ [b]) else none) with
          | none => none
          | some (rows, row) => if row = [] ∧ isChart rows = true then some rows else none) = none
        rw [if_neg d, if_neg c]
  · rintro σ H' ⟨pq, v, rows, row, rfl, R, hz1, hz2, hp⟩
    rw [List.length_map, List.drop_length] at hp
    obtain ⟨as, c1, c2, c3, c4⟩ := R.ch
    have hpa : parse ns = if row = [] ∧ isChart rows = true then some rows else none := by
      unfold parse
      rw [hp]
      rfl
    refine ⟨_, rfl, _, .inl ⟨_, SqL.of R.at_, rfl⟩, ?_⟩
    cases row with
    | cons x r =>
      refine iteT ?_
      refine iteT ?_
      exact qN (by rw [hpa, if_neg (fun z => by cases z.1)]) H' R.same
    | nil =>
      refine iteF ?_
      refine ⟨_, rfl, pr, as, rows, rfl, SqL.of c1, c2, _, rfl, ?_⟩
      cases e : isChart rows with
      | false =>
        refine iteT ?_
        exact qN (by rw [hpa, if_neg (fun z => by rw [e] at z; cases z.2)]) H' R.same
      | true =>
        refine iteF ?_
        exact ⟨_, rfl, qS rows (by rw [hpa, if_pos ⟨rfl, e⟩]) pr H' R.same ⟨as, c1, c2⟩⟩
theorem opt_none {H : Hp} {x : V} (h : OptCh H x none) : x = .non := by
  rcases h with h | ⟨p, rs, _, e, _⟩
  · exact h.1
  · cases e
theorem opt_some {H : Hp} {x : V} {rs : List (List Int)} (h : OptCh H x (some rs)) : ∃ p, x = .ref p ∧ ChartAt H p rs := by
  rcases h with h | ⟨p, rs', e, e', c⟩
  · cases h.2
  · cases e'
    exact ⟨p, e, c⟩
theorem dec_ref {p : Addr} : decide (V.ref p = V.non) = false := decide_eq_false (fun z => by cases z)
/-! ### is_depth -/
def depthZ (n : Int) : Bool := decide (1 ≤ n) && decide (n ≤ 128)
def spDep : Sp := fun vs H Q _ => ∃ n : Int, vs = [.int n] ∧ Q (.bl (depthZ n)) H
theorem scDep : FnScope ["h"] ["h"] (defScope sDep) := ⟨rfl, rfl, rfl, by decide +kernel, rfl, by decide +kernel, by decide +kernel⟩
theorem ok_dep {t : Tok} (F : Fun K "is_depth" "is_depth" sDep f fd) (mS : mg "MOST_DEPTH" = some (.int 128 t)) : FnOk P w K mg base CX0 1 f fd ["h"] spDep := by
  refine F.ok scDep (fun vs H Q E h => ?_) (fun cdv A outer s H vs Q E hr h => ?_)
  · obtain ⟨b, rfl, _⟩ := h
    rfl
  obtain ⟨b, rfl, q⟩ := h
  refine ⟨_, pss_one (ps_ret (pe_chain op_le op_le pe_int (pv 0) (pe_gi rfl mS))), ?_⟩
  unfold depthZ at q
  refine ⟨_, rfl, _, _, rfl, rfl, _, rfl, ite2 (fun c => ?_) (fun c => ?_)⟩
  · rw [c] at q
    exact ⟨_, _, rfl, rfl, q⟩
  · rw [Bool.eq_false_iff.mpr c] at q
    exact q
/-! ### is_border -/
def bordZ (kind L h : Int) : Bool := decide (kind ≤ 2) && (sideZ L && depthZ h)
def spBord : Sp := fun vs H Q _ => ∃ kind L h : Int, vs = [.int kind, .int L, .int h] ∧ Q (.bl (bordZ kind L h)) H
theorem scBord : FnScope ["kind", "L", "h"] ["kind", "L", "h"] (defScope sBord) := ⟨rfl, rfl, rfl, by decide +kernel, rfl, by decide +kernel, by decide +kernel⟩
theorem ok_bord {t : Tok} {fS fD : Addr} {dS dD : FuncData} (F : Fun K "is_border" "is_border" sBord f fd) (mR : mg "RUN" = some (.int 2 t)) (S : Defs K P w mg base 1 "is_side" ["number"] spSide fS dS) (D : Defs K P w mg base 1 "is_depth" ["h"] spDep fD dD) :
    FnOk P w K mg base CX0 2 f fd ["kind", "L", "h"] spBord := by
  refine F.ok scBord (fun vs H Q E h => ?_) (fun cdv A outer s H vs Q E hr h => ?_)
  · obtain ⟨a, b, c, rfl, _⟩ := h
    rfl
  obtain ⟨kind, L, h, rfl, q⟩ := h
  refine ⟨_, pss_one (ps_ret (pe_and (pe_cmpR op_le (pv 0) (pe_gi rfl mR) (nomark _)) (pe_and (pe_call S.G hr rfl S.m S.kp S.b .nil pass0 (pn 1 pa_nil)) (pe_one (pe_call D.G hr rfl D.m D.kp D.b .nil pass0 (pn 2 pa_nil)))))), ?_⟩
  unfold bordZ at q
  refine ⟨_, rfl, _, _, rfl, rfl, _, rfl, ite2 (fun c => ?_) (fun c => ?_)⟩
  · rw [c] at q
    refine ⟨_, rfl, L, rfl, _, rfl, ite2 (fun d => ?_) (fun d => ?_)⟩
    · rw [d] at q
      exact ⟨_, rfl, h, rfl, q⟩
    · rw [Bool.eq_false_iff.mpr d] at q
      exact q
  · rw [Bool.eq_false_iff.mpr c] at q
    exact q
/-! ### in_bounds -/
theorem in_bord (kind L h W Hh : Int) : inZ kind L h W Hh = (bordZ kind L h && (sideZ W && sideZ Hh)) := by
  unfold inZ bordZ depthZ
  cases decide (kind ≤ 2) <;> cases sideZ L <;> simp
def spInB : Sp := fun vs H Q _ => ∃ kind L h W Hh : Int, vs = [.int kind, .int L, .int h, .int W, .int Hh] ∧ Q (.bl (inZ kind L h W Hh)) H
theorem scInB : FnScope ["kind", "L", "h", "W", "H"] ["kind", "L", "h", "W", "H"] (defScope sInB) := ⟨rfl, rfl, rfl, by decide +kernel, rfl, by decide +kernel, by decide +kernel⟩
theorem ok_inB {fS fB : Addr} {dS dB : FuncData} (F : Fun K "in_bounds" "in_bounds" sInB f fd) (B : Defs K P w mg base 2 "is_border" ["kind", "L", "h"] spBord fB dB) (S : Defs K P w mg base 1 "is_side" ["number"] spSide fS dS) :
    FnOk P w K mg base CX0 3 f fd ["kind", "L", "h", "W", "H"] spInB := by
  refine F.ok scInB (fun vs H Q E h => ?_) (fun cdv A outer s H vs Q E hr h => ?_)
  · obtain ⟨a, b, c, d, e, rfl, _⟩ := h
    rfl
  obtain ⟨kind, L, h, W, Hh, rfl, q⟩ := h
  have hr1 : Room 1 _ := hr.mono (by decide)
  refine ⟨_, pss_one (ps_ret (pe_and (pe_call B.G hr rfl B.m B.kp B.b .nil pass0 (pn 0 (pn 1 (pn 2 pa_nil)))) (pe_and (pe_call S.G hr1 rfl S.m S.kp S.b .nil pass0 (pn 3 pa_nil)) (pe_one (pe_call S.G hr1 rfl S.m S.kp S.b .nil pass0 (pn 4 pa_nil)))))), ?_⟩
  rw [in_bord] at q
  refine ⟨_, rfl, _, rfl, _, rfl, kind, L, h, rfl, _, rfl, ite2 (fun c => ?_) (fun c => ?_)⟩
  · rw [c] at q
    refine ⟨_, rfl, W, rfl, _, rfl, ite2 (fun d => ?_) (fun d => ?_)⟩
    · rw [d] at q
      exact ⟨_, rfl, Hh, rfl, q⟩
    · rw [Bool.eq_false_iff.mpr d] at q
      exact q
  · rw [Bool.eq_false_iff.mpr c] at q
    exact q
/-! ### is_right_corner -/
def spCorn : Sp := fun vs H Q _ => ∃ (kind : Int) (c : Addr) (rs : List (List Int)) (h : Nat), vs = [.int kind, .ref c, .int h] ∧ 1 ≤ h ∧ ChartAt H c rs ∧ Q (.bl (rightCorner kind rs h)) H
theorem scCorn : FnScope ["kind", "corner_chart", "h"] ["kind", "corner_chart", "h"] (defScope sCorn) := ⟨rfl, rfl, rfl, by decide +kernel, rfl, by decide +kernel, by decide +kernel⟩
theorem ok_corn {t : Tok} (F : Fun K "is_right_corner" "is_right_corner" sCorn f fd) (m0 : mg "SET" = some (.int 0 t)) (ml : mg "len" = none) : FnOk P w K mg base CX0 1 f fd ["kind", "corner_chart", "h"] spCorn := by
  refine F.ok scCorn (fun vs H Q E h => ?_) (fun cdv A outer s H vs Q E hr h => ?_)
  · obtain ⟨a, b, c, d, rfl, _⟩ := h
    rfl
  obtain ⟨kind, c, rs, h, rfl, hh, ⟨as, hA, hR⟩, q⟩ := h
  refine ⟨_, pss_cons (ps_if (pt_cmpR op_ne (pv 0) (pe_gi rfl m0) (nomark _)) (pss_one (ps_ret (pe_notT (pv 1)))) pss_nil)
    (pss_one (ps_ret (pe_and (pe_cmpR op_eq (pe_callB call_len_seq rfl ml PySem.boot_len (pa_cons (pv 1) pa_nil)) (pv 2) (nomark _)) (pe_one (pe_cmpR op_eq (pe_callB call_len_seq rfl ml PySem.boot_len (pa_cons (pe_ix ix_list (pv 1) pe_int (fun _ _ => rfl)) pa_nil)) (pv 2) (nomark _)))))), ?_⟩
  have hl := hR.len
  unfold rightCorner at q
  refine ⟨_, rfl, rfl, _, rfl, ?_⟩
  rw [dvi]
  by_cases c0 : kind = 0
  · rw [decide_eq_true c0]
    rw [if_neg (not_not_intro c0)] at q
    refine iteF ?_
    refine ⟨_, rfl, c, _, rfl, .inl (SqL.of hA), _, rfl, rfl, _, rfl, ?_⟩
    rw [dvi, List.length_map, hl]
    by_cases c1 : rs.length = h
    · rw [decide_eq_true (show ((rs.length : Nat) : Int) = ((h : Nat) : Int) by omega)]
      rw [decide_eq_true c1] at q
      refine iteT ?_
      cases hR with
      | nil =>
        have z : (0 : Nat) = h := c1
        omega
      | cons e0 hR' =>
      rename_i a0 r0 as' rs'
      refine ⟨_, rfl, c, _, 0, .ref a0, rfl, rfl, SqL.of hA, at_zero _ _, a0, _, rfl, .inl (SqL.of e0), _, rfl, rfl, ?_⟩
      refine bl_of q ?_
      rw [dvi, List.length_map, Bool.true_and, Bool.eq_iff_iff]
      simp only [decide_eq_true_eq]
      show r0.length = h ↔ _
      omega
    · rw [decide_eq_false (show ¬ ((rs.length : Nat) : Int) = ((h : Nat) : Int) by omega)]
      rw [decide_eq_false c1] at q
      exact iteF q
  · rw [decide_eq_false c0]
    rw [if_pos c0] at q
    refine iteT ?_
    refine ⟨_, rfl, _, .inl ⟨_, SqL.of hA, rfl⟩, bl_of q ?_⟩
    cases hR with
    | nil => rfl
    | cons _ _ => rfl
/-! ### comes_out_along -/
def alongZ (kind L h side : Int) : Bool := if kind = 0 then decide (side % L = 0) else if kind = 1 then decide ((side + 2 * h) % (2 * L) = 0) else decide ((side + h) % L = 0)
def spAlong : Sp := fun vs H Q _ => ∃ kind L h side : Int, vs = [.int kind, .int L, .int h, .int side] ∧ 0 < L ∧ Q (.bl (alongZ kind L h side)) H
theorem scAlong : FnScope ["kind", "L", "h", "side"] ["kind", "L", "h", "side"] (defScope sAlong) := ⟨rfl, rfl, rfl, by decide +kernel, rfl, by decide +kernel, by decide +kernel⟩
theorem ok_along {t t2 : Tok} (F : Fun K "comes_out_along" "comes_out_along" sAlong f fd) (m0 : mg "SET" = some (.int 0 t)) (m1 : mg "MET" = some (.int 1 t2)) : FnOk P w K mg base CX0 1 f fd ["kind", "L", "h", "side"] spAlong := by
  refine F.ok scAlong (fun vs H Q E h => ?_) (fun cdv A outer s H vs Q E hr h => ?_)
  · obtain ⟨a, b, c, d, rfl, _⟩ := h
    rfl
  obtain ⟨kind, L, h, side, rfl, hL, q⟩ := h
  refine ⟨_, pss_cons (ps_if (pt_cmpR op_eq (pv 0) (pe_gi rfl m0) (nomark _)) (pss_one (ps_ret (pe_cmpR op_eq (pe_op op_mod (pv 3) (pv 1)) pe_int (nomark _)))) pss_nil)
    (pss_cons (ps_if (pt_cmpR op_eq (pv 0) (pe_gi rfl m1) (nomark _)) (pss_one (ps_ret (pe_cmpR op_eq (pe_op op_mod (pe_op op_add (pv 3) (pe_op op_mul pe_int (pv 2))) (pe_op op_mul pe_int (pv 1))) pe_int (nomark _)))) pss_nil)
    (pss_one (ps_ret (pe_cmpR op_eq (pe_op op_mod (pe_op op_add (pv 3) (pv 2)) (pv 1)) pe_int (nomark _))))), ?_⟩
  unfold alongZ at q
  refine ⟨_, rfl, rfl, _, rfl, ite2 (fun c => ?_) (fun c => ?_)⟩
  · have c : kind = 0 := V.int.inj (of_decide_eq_true c)
    rw [if_pos c] at q
    exact ⟨_, rfl, _, rfl, _, _, rfl, rfl, hL, rfl, bl_of q (dvi _ _).symm⟩
  have c : ¬ kind = 0 := fun z => c (decide_eq_true (congrArg V.int z))
  rw [if_neg c] at q
  refine ⟨_, rfl, rfl, _, rfl, ite2 (fun c1 => ?_) (fun c1 => ?_)⟩
  · have c1 : kind = 1 := V.int.inj (of_decide_eq_true c1)
    rw [if_pos c1] at q
    exact ⟨_, rfl, _, rfl, _, _, rfl, rfl, .inl ⟨by decide, by decide⟩, _, _, rfl, rfl, _, rfl, _, _, rfl, rfl, .inl ⟨by decide, by decide⟩, _, _, rfl, rfl, (by show (0 : Int) < 2 * L; omega), rfl, bl_of q (dvi _ _).symm⟩
  have c1 : ¬ kind = 1 := fun z => c1 (decide_eq_true (congrArg V.int z))
  rw [if_neg c1] at q
  exact ⟨_, rfl, _, rfl, _, _, rfl, rfl, _, rfl, _, _, rfl, rfl, hL, rfl, bl_of q (dvi _ _).symm⟩
/-! ### comes_out -/
theorem out_along (kind L h W Hh : Int) : outZ kind L h W Hh = (alongZ kind L h W && alongZ kind L h Hh) := by
  unfold outZ alongZ
  by_cases c0 : kind = 0
  · rw [if_pos c0, if_pos c0, if_pos c0]
  · rw [if_neg c0, if_neg c0, if_neg c0]
    by_cases c1 : kind = 1
    · rw [if_pos c1, if_pos c1, if_pos c1]
    · rw [if_neg c1, if_neg c1, if_neg c1]
def spOut : Sp := fun vs H Q _ => ∃ kind L h W Hh : Int, vs = [.int kind, .int L, .int h, .int W, .int Hh] ∧ 0 < L ∧ Q (.bl (outZ kind L h W Hh)) H
theorem scOut : FnScope ["kind", "L", "h", "W", "H"] ["kind", "L", "h", "W", "H"] (defScope sOut) := ⟨rfl, rfl, rfl, by decide +kernel, rfl, by decide +kernel, by decide +kernel⟩
theorem ok_out {fA : Addr} {dA : FuncData} (F : Fun K "comes_out" "comes_out" sOut f fd) (A : Defs K P w mg base 1 "comes_out_along" ["kind", "L", "h", "side"] spAlong fA dA) : FnOk P w K mg base CX0 2 f fd ["kind", "L", "h", "W", "H"] spOut := by
  refine F.ok scOut (fun vs H Q E h => ?_) (fun cdv Ar outer s H vs Q E hr h => ?_)
  · obtain ⟨a, b, c, d, e, rfl, _⟩ := h
    rfl
  obtain ⟨kind, L, h, W, Hh, rfl, hL, q⟩ := h
  refine ⟨_, pss_one (ps_ret (pe_and (pe_call A.G hr rfl A.m A.kp A.b .nil pass0 (pn 0 (pn 1 (pn 2 (pn 3 pa_nil))))) (pe_one (pe_call A.G hr rfl A.m A.kp A.b .nil pass0 (pn 0 (pn 1 (pn 2 (pn 4 pa_nil)))))))), ?_⟩
  rw [out_along] at q
  refine ⟨_, rfl, _, rfl, _, rfl, _, rfl, kind, L, h, W, rfl, hL, _, rfl, ite2 (fun c => ?_) (fun c => ?_)⟩
  · rw [c] at q
    exact ⟨_, rfl, _, rfl, _, rfl, _, rfl, kind, L, h, Hh, rfl, hL, q⟩
  · rw [Bool.eq_false_iff.mpr c] at q
    exact q
theorem chart_cons {R : List (List Int)} (h : isChart R = true) : ∃ r rs, R = r :: rs := by
  cases R with
  | nil => cases h
  | cons r rs => exact ⟨r, rs, rfl⟩
/-- len(x[0]) of a chart that has a row -/
theorem row0_at {H : Hp} {a : Addr} {R : List (List Int)} (h : ChartAt H a R) (hc : isChart R = true) : ∃ (as : List Addr) (b : Addr) (xs : List V), H a = some (.lst (as.map V.ref)) ∧ as.length = R.length ∧ atI (as.map V.ref) 0 = some (.ref b) ∧ H b = some (.lst xs) ∧ xs.length = wideOf R := by
  obtain ⟨as, hA, hR⟩ := h
  obtain ⟨r, rs, rfl⟩ := chart_cons hc
  have hl := hR.len
  cases hR with
  | cons e0 hR' => exact ⟨_, _, _, hA, hl, at_zero _ _, e0, List.length_map _⟩
/-! ### round_refusal -/
def spRef : Sp := fun vs H Q _ => ∃ (kind : Int) (a b c : Addr) (F S C : List (List Int)), vs = [.int kind, .ref a, .ref b, .ref c] ∧ ChartAt H a F ∧ ChartAt H b S ∧ ChartAt H c C ∧ isChart F = true ∧ isChart S = true ∧ Q (.int (refusal kind F S C)) H
theorem scRef : FnScope ["kind", "field", "strip", "corner_chart", "L", "h", "W", "H"] ["kind", "field", "strip", "corner_chart"] (defScope sRef) := ⟨rfl, rfl, rfl, by decide +kernel, rfl, by decide +kernel, by decide +kernel⟩
theorem ok_ref {fI fC fO fS : Addr} {dI dC dO dS : FuncData} (F : Fun K "round_refusal" "round_refusal" sRef f fd) (ml : mg "len" = none)
    (I : Defs K P w mg base 3 "in_bounds" ["kind", "L", "h", "W", "H"] spInB fI dI) (C : Defs K P w mg base 1 "is_right_corner" ["kind", "corner_chart", "h"] spCorn fC dC) (O : Defs K P w mg base 2 "comes_out" ["kind", "L", "h", "W", "H"] spOut fO dO)
    (S : Defs K P w mg base 2 "is_chart_size" ["width", "height"] spSize fS dS) : FnOk P w K mg base CX0 4 f fd ["kind", "field", "strip", "corner_chart"] spRef := by
  refine F.ok scRef (fun vs H Q E h => ?_) (fun cdv A outer s H vs Q E hr h => ?_)
  · obtain ⟨k, a, b, c, F, S, C, rfl, _⟩ := h
    rfl
  obtain ⟨kind, a, b, c, FF, SS, CC, rfl, hF, hS, hC, iF, iS, q⟩ := h
  have hr1 : Room 1 _ := hr.mono (by decide)
  have hr2 : Room 2 _ := hr.mono (by decide)
  refine ⟨_, pss_cons (ps_set (i := 4) scRef.nd rfl (.inl rfl) (pe_callB call_len_seq rfl ml PySem.boot_len (pa_cons (pe_ix ix_list (pv 2) pe_int (fun _ _ => rfl)) pa_nil)))
    (pss_cons (ps_set (i := 5) scRef.nd rfl (.inl rfl) (pe_callB call_len_seq rfl ml PySem.boot_len (pa_cons (pv 2) pa_nil)))
    (pss_cons (ps_set (i := 6) scRef.nd rfl (.inl rfl) (pe_callB call_len_seq rfl ml PySem.boot_len (pa_cons (pe_ix ix_list (pv 1) pe_int (fun _ _ => rfl)) pa_nil)))
    (pss_cons (ps_set (i := 7) scRef.nd rfl (.inl rfl) (pe_callB call_len_seq rfl ml PySem.boot_len (pa_cons (pv 1) pa_nil)))
    (pss_cons (ps_if (PW.pt (pw_or (pt_not (pt_val (pe_call I.G hr rfl I.m I.kp I.b .nil pass0 (pn 0 (pn 4 (pn 5 (pn 6 (pn 7 pa_nil)))))))) (pw_or1 (pt_not (pt_val (pe_call C.G hr1 rfl C.m C.kp C.b .nil pass0 (pn 0 (pn 3 (pn 5 pa_nil))))))))) (pss_one (ps_ret (pe_un un_neg pe_int))) pss_nil)
    (pss_cons (ps_if (pt_not (pt_val (pe_call O.G hr2 rfl O.m O.kp O.b .nil pass0 (pn 0 (pn 4 (pn 5 (pn 6 (pn 7 pa_nil)))))))) (pss_one (ps_ret (pe_un un_neg pe_int))) pss_nil)
    (pss_cons (ps_if (pt_not (pt_val (pe_call S.G hr2 rfl S.m S.kp S.b .nil pass0 (pa_cons (pe_op op_add (pv 6) (pe_op op_mul pe_int (pv 5))) (pa_cons (pe_op op_add (pv 7) (pe_op op_mul pe_int (pv 5))) pa_nil))))) (pss_one (ps_ret (pe_un un_neg pe_int))) pss_nil)
    (pss_one (ps_ret pe_int)))))))), ?_⟩
  obtain ⟨asS, bS, xS, eS, lS, zS, eS0, wS⟩ := row0_at hS iS
  obtain ⟨asF, bF, xF, eF, lF, zF, eF0, wF⟩ := row0_at hF iF
  have hpos : 1 ≤ SS.length := by
    obtain ⟨r, rs, rfl⟩ := chart_cons iS
    exact Nat.succ_le_succ (Nat.zero_le _)
  refine ⟨_, rfl, b, _, _, _, rfl, rfl, SqL.of eS, zS, bS, _, rfl, .inl (SqL.of eS0), ?_⟩
  refine ⟨_, rfl, b, _, rfl, .inl (SqL.of eS), ?_⟩
  refine ⟨_, rfl, a, _, _, _, rfl, rfl, SqL.of eF, zF, bF, _, rfl, .inl (SqL.of eF0), ?_⟩
  refine ⟨_, rfl, a, _, rfl, .inl (SqL.of eF), ?_⟩
  rw [wS, wF, List.length_map, List.length_map, lS, lF]
  refine ⟨_, rfl, _, rfl, _, rfl, _, rfl, _, rfl, kind, _, _, _, _, rfl, _, rfl, ?_⟩
  rw [in_nat]
  unfold refusal at q
  have q0 : ¬ (inB kind (wideOf SS) SS.length (wideOf FF) FF.length = true ∧ rightCorner kind CC SS.length = true) → Q (.int (-1)) H := fun z => by
    rw [if_pos z] at q
    exact q
  cases e1 : inB kind (wideOf SS) SS.length (wideOf FF) FF.length with
  | false => exact iteT (iteT ⟨_, rfl, q0 fun z => by rw [e1] at z; cases z.1⟩)
  | true =>
  refine iteF ?_
  refine ⟨_, rfl, _, rfl, _, rfl, kind, c, CC, SS.length, rfl, hpos, hC, _, rfl, ?_⟩
  cases e2 : rightCorner kind CC SS.length with
  | false => exact iteT ⟨_, rfl, q0 fun z => by rw [e2] at z; cases z.2⟩
  | true =>
  refine iteF ?_
  rw [if_neg (not_not_intro ⟨e1, e2⟩)] at q
  have hL : 1 ≤ wideOf SS := by
    simp only [inB, sideI, Bool.and_eq_true, decide_eq_true_eq] at e1
    exact e1.2.1.1
  refine ⟨_, rfl, _, rfl, _, rfl, _, rfl, _, rfl, kind, _, _, _, _, rfl, (by omega), _, rfl, ?_⟩
  rw [out_nat]
  cases e3 : comesOut kind (wideOf SS) SS.length (wideOf FF) FF.length with
  | false =>
    rw [if_pos (by rw [e3]; decide)] at q
    exact iteT ⟨_, rfl, q⟩
  | true =>
  rw [if_neg (not_not_intro e3)] at q
  refine iteF ?_
  refine ⟨_, rfl, _, rfl, _, _, rfl, rfl, .inl ⟨by decide, by decide⟩, _, _, rfl, rfl, _, rfl, _, rfl, _, _, rfl, rfl, .inl ⟨by decide, by decide⟩, _, _, rfl, rfl, _, _, rfl, _, rfl, ?_⟩
  have w1 : ((wideOf FF : Nat) : Int) + 2 * ((SS.length : Nat) : Int) = ((wideOf FF + 2 * SS.length : Nat) : Int) := by omega
  have w2 : ((FF.length : Nat) : Int) + 2 * ((SS.length : Nat) : Int) = ((FF.length + 2 * SS.length : Nat) : Int) := by omega
  rw [w1, w2, size_nat]
  cases e4 : sizeOkI (wideOf FF + 2 * SS.length) (FF.length + 2 * SS.length) with
  | false =>
    rw [if_pos (by rw [e4]; decide)] at q
    exact iteT ⟨_, rfl, q⟩
  | true =>
    rw [if_neg (not_not_intro e4)] at q
    exact iteF q
/-! ### text_of -/
def spText : Sp := fun vs H Q _ => ∃ (a : Addr) (rs : List (List Int)), vs = [.ref a] ∧ ChartAt H a rs ∧ (flat rs).length ≤ 1000000 ∧ ∀ p H', Same H H' → H' p = some (.lst ((flat rs).map V.int)) → Q (.ref p) H'
theorem scText : FnScope ["chart", "text", "row"] ["chart"] (defScope sText) := ⟨rfl, rfl, rfl, by decide +kernel, rfl, by decide +kernel, by decide +kernel⟩
theorem flat_app (a b : List (List Int)) : flat (a ++ b) = flat a ++ flat b := by simp [flat]
theorem flat_take (rs : List (List Int)) (i : Nat) : (flat (rs.take i)).length ≤ (flat rs).length := by
  have e : flat rs = flat (rs.take i) ++ flat (rs.drop i) := by rw [← flat_app, List.take_append_drop]
  rw [e, List.length_append]
  omega
theorem ok_text {t : Tok} (F : Fun K "text_of" "text_of" sText f fd) (mE : mg "ROW_END" = some (.int 10 t)) : FnOk P w K mg base CX0 1 f fd ["chart"] spText := by
  refine F.ok scText (fun vs H Q E h => ?_) (fun cdv A outer s H vs Q E hr h => ?_)
  · obtain ⟨a, rs, rfl, _⟩ := h
    rfl
  obtain ⟨a, rs, rfl, ⟨as, hA, hR⟩, hlen, q⟩ := h
  refine ⟨_, pss_cons (ps_set (i := 1) scText.nd rfl (.inl rfl) (pe_lst pa_nil))
    (pss_cons (ps_for PassesOwn.never rfl (pi_list (pv 0)) (pg_name (i := 2) scText.nd rfl (.inl rfl))
      (pss_cons (ps_expr (pe_bm PySem.F.plainAttrs_list PySem.F.slot_list_extend PySem.F.type_list_extend mt_extend (pv 1) (pa_cons (pv 2) pa_nil)))
      (pss_one (ps_expr (pe_bm PySem.F.plainAttrs_list PySem.F.slot_list_append PySem.F.type_list_append mt_append (pv 1) (pa_cons (pe_gi rfl mE) pa_nil))))))
    (pss_one (ps_ret (pv 1)))), ?_⟩
  refine ⟨(by show 0 ≤ sizeLine; decide), fun p hp => ?_⟩
  have s0 : Same H (upd H p (.lst [])) := same_new hp _
  refine ⟨_, rfl, a, rfl, ⟨_, SqL.of (s0 _ _ hA)⟩, for_list (K := K) (a := a) (xs := as.map V.ref) (fun i σ H' => ∃ v : Option V, σ = [some (.ref a), some (.ref p), v] ∧ Same H H' ∧ H' p = some (.lst ((flat (rs.take i)).map V.int)))
    ⟨none, rfl, s0, upd_same⟩ (fun i σ H' _ ⟨_, _, e, _⟩ => SqL.of (e _ _ hA)) ?_ ?_⟩
  · rintro i y σ H' hi ⟨v, rfl, s5, h5⟩
    obtain ⟨b, hb, rfl⟩ := map_at hi
    obtain ⟨r, hr1, hr2⟩ := hR.get hb
    have tm := take_more hr1
    have fl : flat (rs.take (i + 1)) = (flat (rs.take i) ++ r) ++ [10] := by
      rw [tm, flat_app]
      simp [flat]
    have z := flat_take rs (i + 1)
    rw [fl, List.length_append, List.length_append, List.length_singleton] at z
    refine ⟨_, rfl, .inl ⟨rfl, _, SqL.of h5⟩, _, rfl, p, b, _, _, rfl, rfl, h5, s5 _ _ hr2, (by rw [List.length_map, List.length_map]; exact Nat.le_of_lt (line_small (by omega))), ?_⟩
    refine ⟨_, rfl, .inl ⟨rfl, _, SqL.of upd_same⟩, p, _, _, rfl, rfl, upd_same, (by rw [List.length_append, List.length_map, List.length_map]; exact line_small (by omega)), ?_⟩
    refine ⟨some (.ref b), rfl, same_put (same_put s5 hp _) hp _, ?_⟩
    rw [upd_same, fl, List.map_append, List.map_append]
    rfl
  · rintro σ H' ⟨v, rfl, s5, h5⟩
    refine ⟨_, rfl, q p H' s5 ?_⟩
    rw [h5, List.length_map, hR.len, List.take_length]
/-! ### told_text -/
def spTold : Sp := fun vs H Q _ => ∃ (a : Addr) (rs : List (List Int)), vs = [.ref a] ∧ ChartAt H a rs ∧ (flat rs).length ≤ 1000000 ∧ ∀ p H', Same H H' → H' p = some (.lst ((((flat rs).length : Int) :: flat rs).map V.int)) → Q (.ref p) H'
theorem scTold : FnScope ["chart", "text"] ["chart"] (defScope sTold) := ⟨rfl, rfl, rfl, by decide +kernel, rfl, by decide +kernel, by decide +kernel⟩
theorem ok_told {fT : Addr} {dT : FuncData} (F : Fun K "told_text" "told_text" sTold f fd) (ml : mg "len" = none) (T : Defs K P w mg base 1 "text_of" ["chart"] spText fT dT) : FnOk P w K mg base CX0 2 f fd ["chart"] spTold := by
  refine F.ok scTold (fun vs H Q E h => ?_) (fun cdv A outer s H vs Q E hr h => ?_)
  · obtain ⟨a, rs, rfl, _⟩ := h
    rfl
  obtain ⟨a, rs, rfl, hA, small, q⟩ := h
  refine ⟨_, pss_cons (ps_set (i := 1) scTold.nd rfl (.inl rfl) (pe_call T.G hr rfl T.m T.kp T.b .nil pass0 (pn 0 pa_nil)))
    (pss_one (ps_ret (pe_op op_cat (pe_lst (pa_cons (pe_callB call_len_seq rfl ml PySem.boot_len (pn 1 pa_nil)) pa_nil)) (pv 1)))), ?_⟩
  have one : (1 : Nat) ≤ sizeLine := by decide
  refine ⟨_, rfl, a, rs, rfl, hA, small, fun pt H5 s5 ht5 => ?_⟩
  refine ⟨_, rfl, pt, _, rfl, .inl (SqL.of ht5), one, fun pl hpl => ?_⟩
  refine ⟨_, rfl, pl, pt, _, _, rfl, rfl, upd_same, (same_new hpl _) _ _ ht5, ?_, fun p hp => ?_⟩
  · rw [List.length_map]
    show 1 + _ ≤ _
    exact Nat.le_of_lt (Nat.lt_of_le_of_lt (Nat.add_le_add_left small 1) (by rw [sizeLine_eq]; decide))
  · refine q p _ (s5.trans ((same_new hpl _).trans (same_new hp _))) ?_
    rw [upd_same, List.length_map]
    rfl
/-! ### seen_from_side -/
def spSeen : Sp := fun vs H Q _ => ∃ h W Hh x y : Nat, vs = [.int h, .int W, .int Hh, .int x, .int y] ∧ x < W + 2 * h ∧ y < Hh + 2 * h ∧ ∀ p H', Same H H' → H' p = some (.tup [.int ((RM.seen h W Hh x y).1 : Nat), .int ((RM.seen h W Hh x y).2 : Nat)]) → Q (.ref p) H'
theorem scSeen : FnScope ["h", "W", "H", "x", "y", "wide", "high"] ["h", "W", "H", "x", "y"] (defScope sSeen) := ⟨rfl, rfl, rfl, by decide +kernel, rfl, by decide +kernel, by decide +kernel⟩
theorem tup2 {a b c d : Int} (h1 : a = c) (h2 : b = d) : some (HO.tup [.int a, .int b]) = some (HO.tup [.int c, .int d]) := by rw [h1, h2]
theorem ok_seen (F : Fun K "seen_from_side" "seen_from_side" sSeen f fd) : FnOk P w K mg base CX0 1 f fd ["h", "W", "H", "x", "y"] spSeen := by
  refine F.ok scSeen (fun vs H Q E h => ?_) (fun cdv A outer s H vs Q E hr h => ?_)
  · obtain ⟨a, b, c, d, e, rfl, _⟩ := h
    rfl
  obtain ⟨h, W, Hh, x, y, rfl, hx, hy, q⟩ := h
  refine ⟨_, pss_cons (ps_set (i := 5) scSeen.nd rfl (.inl rfl) (pe_op op_add (pv 1) (pe_op op_mul pe_int (pv 0))))
    (pss_cons (ps_set (i := 6) scSeen.nd rfl (.inl rfl) (pe_op op_add (pv 2) (pe_op op_mul pe_int (pv 0))))
    (pss_cons (ps_if (PW.pt (pw_and (pt_cmpR op_lt (pv 3) (pe_op op_add (pv 1) (pv 0)) (nomark _)) (pw_and1 (pt_cmpR op_lt (pv 4) (pv 0) (nomark _))))) (pss_one (ps_ret (pe_tup (pa_cons (pv 3) (pa_cons (pv 4) pa_nil))))) pss_nil)
    (pss_cons (ps_if (PW.pt (pw_and (pt_cmpR op_ge (pv 3) (pe_op op_add (pv 1) (pv 0)) (nomark _)) (pw_and1 (pt_cmpR op_lt (pv 4) (pe_op op_add (pv 2) (pv 0)) (nomark _))))) (pss_one (ps_ret (pe_tup (pa_cons (pv 4) (pa_cons (pe_op op_sub (pe_op op_sub (pv 5) pe_int) (pv 3)) pa_nil))))) pss_nil)
    (pss_cons (ps_if (PW.pt (pw_and (pt_cmpR op_ge (pv 3) (pv 0) (nomark _)) (pw_and1 (pt_cmpR op_ge (pv 4) (pe_op op_add (pv 2) (pv 0)) (nomark _))))) (pss_one (ps_ret (pe_tup (pa_cons (pe_op op_sub (pe_op op_sub (pv 5) pe_int) (pv 3)) (pa_cons (pe_op op_sub (pe_op op_sub (pv 6) pe_int) (pv 4)) pa_nil))))) pss_nil)
    (pss_one (ps_ret (pe_tup (pa_cons (pe_op op_sub (pe_op op_sub (pv 6) pe_int) (pv 4)) (pa_cons (pv 3) pa_nil))))))))), ?_⟩
  refine ⟨_, rfl, _, rfl, _, _, rfl, rfl, .inl ⟨by decide, by decide⟩, _, _, rfl, rfl, ?_⟩
  refine ⟨_, rfl, _, rfl, _, _, rfl, rfl, .inl ⟨by decide, by decide⟩, _, _, rfl, rfl, ?_⟩
  have two : (2 : Nat) ≤ sizeLine := by decide
  have fin : ∀ {a b : Int}, a = ((RM.seen h W Hh x y).1 : Nat) → b = ((RM.seen h W Hh x y).2 : Nat) → ∀ p, H p = none → Q (.ref p) (upd H p (.tup [.int a, .int b])) := fun e1 e2 p hp =>
    q p _ (same_new hp _) (by rw [upd_same]; exact tup2 e1 e2)
  -- ahead of the third return: not the first two
  have last : ∀ e : ¬ (x < W + h ∧ y < h), ¬ (W + h ≤ x ∧ y < Hh + h) → ¬ (h ≤ x ∧ Hh + h ≤ y) → RM.seen h W Hh x y = (Hh + 2 * h - 1 - y, x) := fun e1 e2 e3 => by
    unfold RM.seen
    rw [if_neg e1, if_neg e2, if_neg e3]
  refine ⟨_, rfl, _, rfl, _, rfl, _, _, rfl, rfl, _, _, rfl, rfl, _, rfl, ?_⟩
  have ret4 : ∀ e : ¬ (x < W + h ∧ y < h), ¬ (W + h ≤ x ∧ y < Hh + h) → ¬ (h ≤ x ∧ Hh + h ≤ y) → ∀ p, H p = none → Q (.ref p) (upd H p (.tup [.int ((((Hh : Nat) : Int) + 2 * ((h : Nat) : Int)) - 1 - ((y : Nat) : Int)), .int ((x : Nat) : Int)])) := fun e1 e2 e3 => by
    have z := last e1 e2 e3
    exact fin (by rw [z]; show _ = ((Hh + 2 * h - 1 - y : Nat) : Int); omega) (by rw [z])
  by_cases c1 : x < W + h ∧ y < h
  · rw [decide_eq_true (show ((x : Nat) : Int) < ((W : Nat) : Int) + ((h : Nat) : Int) by omega)]
    refine iteT ?_
    refine ⟨_, rfl, _, rfl, _, _, rfl, rfl, _, rfl, ?_⟩
    rw [decide_eq_true (show ((y : Nat) : Int) < ((h : Nat) : Int) by omega)]
    refine iteT ?_
    have z : RM.seen h W Hh x y = (x, y) := if_pos c1
    exact ⟨_, rfl, _, rfl, two, fin (by rw [z]) (by rw [z])⟩
  · have step2 : ∀ T : TS, ∀ D : Ends, True := fun _ _ => trivial
    by_cases d1 : x < W + h
    · rw [decide_eq_true (show ((x : Nat) : Int) < ((W : Nat) : Int) + ((h : Nat) : Int) by omega)]
      refine iteT ?_
      refine ⟨_, rfl, _, rfl, _, _, rfl, rfl, _, rfl, ?_⟩
      rw [decide_eq_false (show ¬ ((y : Nat) : Int) < ((h : Nat) : Int) by omega)]
      refine iteF ?_
      refine ⟨_, rfl, _, rfl, _, rfl, _, _, rfl, rfl, _, _, rfl, rfl, _, rfl, ?_⟩
      rw [decide_eq_false (show ¬ ((W : Nat) : Int) + ((h : Nat) : Int) ≤ ((x : Nat) : Int) by omega)]
      refine iteF (iteF ?_)
      refine ⟨_, rfl, _, rfl, _, _, rfl, rfl, _, rfl, ?_⟩
      by_cases d3 : h ≤ x
      · rw [decide_eq_true (show ((h : Nat) : Int) ≤ ((x : Nat) : Int) by omega)]
        refine iteT ?_
        refine ⟨_, rfl, _, rfl, _, rfl, _, _, rfl, rfl, _, _, rfl, rfl, _, rfl, ?_⟩
        by_cases d4 : Hh + h ≤ y
        · rw [decide_eq_true (show ((Hh : Nat) : Int) + ((h : Nat) : Int) ≤ ((y : Nat) : Int) by omega)]
          refine iteT ?_
          have z : RM.seen h W Hh x y = (W + 2 * h - 1 - x, Hh + 2 * h - 1 - y) := (if_neg c1).trans ((if_neg (by omega)).trans (if_pos ⟨d3, d4⟩))
          exact ⟨_, rfl, _, _, rfl, rfl, _, rfl, _, _, rfl, rfl, _, rfl, _, _, rfl, rfl, _, rfl, _, _, rfl, rfl, two, fin (by rw [z]; show _ = ((W + 2 * h - 1 - x : Nat) : Int); omega) (by rw [z]; show _ = ((Hh + 2 * h - 1 - y : Nat) : Int); omega)⟩
        · rw [decide_eq_false (show ¬ ((Hh : Nat) : Int) + ((h : Nat) : Int) ≤ ((y : Nat) : Int) by omega)]
          refine iteF ?_
          exact ⟨_, rfl, _, _, rfl, rfl, _, rfl, _, _, rfl, rfl, _, rfl, two, ret4 c1 (by omega) (by omega)⟩
      · rw [decide_eq_false (show ¬ ((h : Nat) : Int) ≤ ((x : Nat) : Int) by omega)]
        refine iteF (iteF ?_)
        exact ⟨_, rfl, _, _, rfl, rfl, _, rfl, _, _, rfl, rfl, _, rfl, two, ret4 c1 (by omega) (by omega)⟩
    · rw [decide_eq_false (show ¬ ((x : Nat) : Int) < ((W : Nat) : Int) + ((h : Nat) : Int) by omega)]
      refine iteF (iteF ?_)
      refine ⟨_, rfl, _, rfl, _, rfl, _, _, rfl, rfl, _, _, rfl, rfl, _, rfl, ?_⟩
      rw [decide_eq_true (show ((W : Nat) : Int) + ((h : Nat) : Int) ≤ ((x : Nat) : Int) by omega)]
      refine iteT ?_
      refine ⟨_, rfl, _, rfl, _, rfl, _, _, rfl, rfl, _, _, rfl, rfl, _, rfl, ?_⟩
      by_cases d2 : y < Hh + h
      · rw [decide_eq_true (show ((y : Nat) : Int) < ((Hh : Nat) : Int) + ((h : Nat) : Int) by omega)]
        refine iteT ?_
        have z : RM.seen h W Hh x y = (y, W + 2 * h - 1 - x) := (if_neg c1).trans (if_pos (by omega))
        exact ⟨_, rfl, _, rfl, _, _, rfl, rfl, _, rfl, _, _, rfl, rfl, two, fin (by rw [z]) (by rw [z]; show _ = ((W + 2 * h - 1 - x : Nat) : Int); omega)⟩
      · rw [decide_eq_false (show ¬ ((y : Nat) : Int) < ((Hh : Nat) : Int) + ((h : Nat) : Int) by omega)]
        refine iteF ?_
        refine ⟨_, rfl, _, rfl, _, _, rfl, rfl, _, rfl, ?_⟩
        rw [decide_eq_true (show ((h : Nat) : Int) ≤ ((x : Nat) : Int) by omega)]
        refine iteT ?_
        refine ⟨_, rfl, _, rfl, _, rfl, _, _, rfl, rfl, _, _, rfl, rfl, _, rfl, ?_⟩
        rw [decide_eq_true (show ((Hh : Nat) : Int) + ((h : Nat) : Int) ≤ ((y : Nat) : Int) by omega)]
        refine iteT ?_
        have z : RM.seen h W Hh x y = (W + 2 * h - 1 - x, Hh + 2 * h - 1 - y) := (if_neg c1).trans ((if_neg (by omega)).trans (if_pos (by omega)))
        exact ⟨_, rfl, _, _, rfl, rfl, _, rfl, _, _, rfl, rfl, _, rfl, _, _, rfl, rfl, _, rfl, _, _, rfl, rfl, two, fin (by rw [z]; show _ = ((W + 2 * h - 1 - x : Nat) : Int); omega) (by rw [z]; show _ = ((Hh + 2 * h - 1 - y : Nat) : Int); omega)⟩
/-- h <= x < W + h and h <= y < H + h, of whole numbers in the slots 2 to 6 -/
def tInField : TT := fun σ H Q => ∃ h W Hh x y : Nat, σ[2]? = some (some (.int h)) ∧ σ[3]? = some (some (.int W)) ∧ σ[4]? = some (some (.int Hh)) ∧ σ[5]? = some (some (.int x)) ∧ σ[6]? = some (some (.int y)) ∧ Q (decide (h ≤ x ∧ x < W + h ∧ h ≤ y ∧ y < Hh + h)) H
def tv (q : Nat × Nat × Nat) : List V := [.int (q.1 : Nat), .int (q.2.1 : Nat), .int (q.2.2 : Nat)]
theorem tup3 {a b c : Int} {q : Nat × Nat × Nat} (h1 : a = (q.1 : Nat)) (h2 : b = (q.2.1 : Nat)) (h3 : c = (q.2.2 : Nat)) : some (HO.tup [.int a, .int b, .int c]) = some (HO.tup (tv q)) := by rw [h1, h2, h3] <;> rfl
def spKnot : Sp := fun vs H Q _ => ∃ (kind : Int) (L h W Hh x y : Nat), vs = [.int kind, .int L, .int h, .int W, .int Hh, .int x, .int y] ∧ 1 ≤ L ∧ x < W + 2 * h ∧ y < Hh + 2 * h ∧ 0 ≤ kind ∧ kind ≤ 2 ∧
  ∀ p H', Same H H' → H' p = some (.tup (tv (knot (kk kind) L h W Hh x y))) → Q (.ref p) H'
theorem scKnot : FnScope ["kind", "L", "h", "W", "H", "x", "y", "u", "v", "seen", "along", "inward"] ["kind", "L", "h", "W", "H", "x", "y"] (defScope sKnot) := ⟨rfl, rfl, rfl, by decide +kernel, rfl, by decide +kernel, by decide +kernel⟩
theorem castmod {a : Int} {n L : Nat} (e : a = (n : Nat)) : a % ((L : Nat) : Int) = ((n % L : Nat) : Int) := by
  rw [e, Int.natCast_emod]
theorem ok_knot {t0 t1 t2 t3 t4 : Tok} {fS : Addr} {dS : FuncData} (F : Fun K "knot_of" "knot_of" sKnot f fd) (S : Defs K P w mg base 1 "seen_from_side" ["h", "W", "H", "x", "y"] spSeen fS dS)
    (mF : mg "OF_FIELD" = some (.int 0 t0)) (mT : mg "OF_STRIP" = some (.int 1 t1)) (mC : mg "OF_CORNER" = some (.int 2 t2)) (mM : mg "MET" = some (.int 1 t3)) (mR : mg "RUN" = some (.int 2 t4)) (mmin : mg "min" = none) (mmax : mg "max" = none) :
    FnOk P w K mg base CX0 2 f fd ["kind", "L", "h", "W", "H", "x", "y"] spKnot := by
  refine F.ok scKnot (fun vs H Q E h => ?_) (fun cdv A outer s H vs Q E hr h => ?_)
  · obtain ⟨a, b, c, d, e, i, j, rfl, _⟩ := h
    rfl
  obtain ⟨kind, L, h, W, Hh, x, y, rfl, hL, hx, hy, hk0, hk2, q⟩ := h
  refine ⟨_, pss_cons (ps_if (PT.weak (t' := tInField) (PW.pt (pw_and (pt_chain op_le op_lt (pv 2) (pv 5) (pe_op op_add (pv 3) (pv 2))) (pw_and1 (pt_chain op_le op_lt (pv 2) (pv 6) (pe_op op_add (pv 4) (pv 2)))))) (fun σ H Q hq => by
      obtain ⟨h, W, Hh, x, y, e2, e3, e4, e5, e6, q⟩ := hq
      refine ⟨_, e2, _, e5, _, _, rfl, rfl, _, rfl, ?_⟩
      by_cases c1 : h ≤ x
      · rw [decide_eq_true (show ((h : Nat) : Int) ≤ ((x : Nat) : Int) by omega)]
        refine iteT ?_
        refine ⟨_, e3, _, e2, _, _, rfl, rfl, _, _, rfl, rfl, _, rfl, ?_⟩
        by_cases c2 : x < W + h
        · rw [decide_eq_true (show ((x : Nat) : Int) < ((W : Nat) : Int) + ((h : Nat) : Int) by omega)]
          refine iteT ?_
          refine ⟨_, e2, _, e6, _, _, rfl, rfl, _, rfl, ?_⟩
          by_cases c3 : h ≤ y
          · rw [decide_eq_true (show ((h : Nat) : Int) ≤ ((y : Nat) : Int) by omega)]
            refine iteT ?_
            refine ⟨_, e4, _, e2, _, _, rfl, rfl, _, _, rfl, rfl, _, rfl, ?_⟩
            by_cases c4 : y < Hh + h
            · rw [decide_eq_true (show ((y : Nat) : Int) < ((Hh : Nat) : Int) + ((h : Nat) : Int) by omega)]
              rw [decide_eq_true (show h ≤ x ∧ x < W + h ∧ h ≤ y ∧ y < Hh + h from ⟨c1, c2, c3, c4⟩)] at q
              exact q
            · rw [decide_eq_false (show ¬ ((y : Nat) : Int) < ((Hh : Nat) : Int) + ((h : Nat) : Int) by omega)]
              rw [decide_eq_false (show ¬ (h ≤ x ∧ x < W + h ∧ h ≤ y ∧ y < Hh + h) by omega)] at q
              exact q
          · rw [decide_eq_false (show ¬ ((h : Nat) : Int) ≤ ((y : Nat) : Int) by omega)]
            rw [decide_eq_false (show ¬ (h ≤ x ∧ x < W + h ∧ h ≤ y ∧ y < Hh + h) by omega)] at q
            exact iteF ⟨_, rfl, q⟩
        · rw [decide_eq_false (show ¬ ((x : Nat) : Int) < ((W : Nat) : Int) + ((h : Nat) : Int) by omega)]
          rw [decide_eq_false (show ¬ (h ≤ x ∧ x < W + h ∧ h ≤ y ∧ y < Hh + h) by omega)] at q
          exact iteF q
      · rw [decide_eq_false (show ¬ ((h : Nat) : Int) ≤ ((x : Nat) : Int) by omega)]
        rw [decide_eq_false (show ¬ (h ≤ x ∧ x < W + h ∧ h ≤ y ∧ y < Hh + h) by omega)] at q
        exact iteF ⟨_, rfl, iteF q⟩))
      (pss_one (ps_ret (pe_tup (pa_cons (pe_gi rfl mF) (pa_cons (pe_op op_sub (pv 5) (pv 2)) (pa_cons (pe_op op_sub (pv 6) (pv 2)) pa_nil)))))) pss_nil)
    (pss_cons (ps_if (pt_cmpR op_eq (pv 0) (pe_gi rfl mM) (nomark _))
      (pss_cons (ps_set (i := 7) scKnot.nd rfl (.inl rfl) (pe_callB (call_min2 rfl) rfl mmin (by decide +kernel) (pa_cons (pv 5) (pa_cons (pe_op op_sub (pe_op op_sub (pe_op op_add (pv 3) (pe_op op_mul pe_int (pv 2))) pe_int) (pv 5)) pa_nil))))
      (pss_cons (ps_set (i := 8) scKnot.nd rfl (.inl rfl) (pe_callB (call_min2 rfl) rfl mmin (by decide +kernel) (pa_cons (pv 6) (pa_cons (pe_op op_sub (pe_op op_sub (pe_op op_add (pv 4) (pe_op op_mul pe_int (pv 2))) pe_int) (pv 6)) pa_nil))))
      (pss_one (ps_ret (pe_tup (pa_cons (pe_gi rfl mT) (pa_cons (pe_op op_mod (pe_callB (call_max2 rfl) rfl mmax (by decide +kernel) (pn 7 (pn 8 pa_nil))) (pv 1)) (pa_cons (pe_callB (call_min2 rfl) rfl mmin (by decide +kernel) (pn 7 (pn 8 pa_nil))) pa_nil))))))))
      pss_nil)
    (pss_cons (ps_set (i := 9) scKnot.nd rfl (.inl rfl) (pe_call S.G hr rfl S.m S.kp S.b .nil pass0 (pn 2 (pn 3 (pn 4 (pn 5 (pn 6 pa_nil)))))))
    (pss_cons (ps_set (i := 10) scKnot.nd rfl (.inl rfl) (pe_ix ix_tup (pv 9) pe_int (fun _ _ => rfl)))
    (pss_cons (ps_set (i := 11) scKnot.nd rfl (.inl rfl) (pe_ix ix_tup (pv 9) pe_int (fun _ _ => rfl)))
    (pss_cons (ps_if (pt_cmpR op_eq (pv 0) (pe_gi rfl mR) (nomark _)) (pss_one (ps_ret (pe_tup (pa_cons (pe_gi rfl mT) (pa_cons (pe_op op_mod (pv 10) (pv 1)) (pn 11 pa_nil)))))) pss_nil)
    (pss_cons (ps_if (pt_cmpR op_lt (pv 10) (pv 2) (nomark _)) (pss_one (ps_ret (pe_tup (pa_cons (pe_gi rfl mC) (pn 10 (pn 11 pa_nil)))))) pss_nil)
    (pss_one (ps_ret (pe_tup (pa_cons (pe_gi rfl mT) (pa_cons (pe_op op_mod (pe_op op_sub (pv 10) (pv 2)) (pv 1)) (pn 11 pa_nil)))))))))))), ?_⟩
  have three : (3 : Nat) ≤ sizeLine := by decide
  have fin : ∀ {a b c : Int} {z : Nat × Nat × Nat} (H1 : Hp), Same H H1 → knot (kk kind) L h W Hh x y = z → a = (z.1 : Nat) → b = (z.2.1 : Nat) → c = (z.2.2 : Nat) → ∀ p, H1 p = none → Q (.ref p) (upd H1 p (.tup [.int a, .int b, .int c])) := fun H1 s1 ez e1 e2 e3 p hp =>
    q p _ (s1.trans (same_new hp _)) (by rw [upd_same, ez]; exact tup3 e1 e2 e3)
  -- the knot lies in the field, or goes on
  have field : h ≤ x ∧ x < W + h ∧ h ≤ y ∧ y < Hh + h → knot (kk kind) L h W Hh x y = (0, x - h, y - h) := fun c => if_pos c
  refine ⟨h, W, Hh, x, y, rfl, rfl, rfl, rfl, rfl, ?_⟩
  by_cases c : h ≤ x ∧ x < W + h ∧ h ≤ y ∧ y < Hh + h
  · rw [decide_eq_true c]
    refine iteT ?_
    refine ⟨_, rfl, _, rfl, _, _, rfl, rfl, _, rfl, _, rfl, _, _, rfl, rfl, three, ?_⟩
    exact fin H (Same.refl H) (field c) rfl (by show _ = ((x - h : Nat) : Int); omega) (by show _ = ((y - h : Nat) : Int); omega)
  rw [decide_eq_false c]
  refine iteF ?_
  have kn : knot (kk kind) L h W Hh x y = (match kk kind with
    | .met => (1, max (min x (W + 2 * h - 1 - x)) (min y (Hh + 2 * h - 1 - y)) % L, min (min x (W + 2 * h - 1 - x)) (min y (Hh + 2 * h - 1 - y)))
    | .run => (1, (RM.seen h W Hh x y).1 % L, (RM.seen h W Hh x y).2)
    | .set => if (RM.seen h W Hh x y).1 < h then (2, (RM.seen h W Hh x y).1, (RM.seen h W Hh x y).2) else (1, ((RM.seen h W Hh x y).1 - h) % L, (RM.seen h W Hh x y).2)) := if_neg c
  refine ⟨_, rfl, rfl, _, rfl, ?_⟩
  rw [dvi]
  by_cases k1 : kind = 1
  · rw [decide_eq_true k1]
    refine iteT ?_
    have ek : kk kind = .met := by rw [k1]; rfl
    have kz : knot (kk kind) L h W Hh x y = (1, max (min x (W + 2 * h - 1 - x)) (min y (Hh + 2 * h - 1 - y)) % L, min (min x (W + 2 * h - 1 - x)) (min y (Hh + 2 * h - 1 - y))) := by rw [kn, ek]
    refine ⟨_, rfl, _, rfl, _, rfl, _, _, rfl, rfl, .inl ⟨by decide, by decide⟩, _, _, rfl, rfl, _, _, rfl, rfl, _, rfl, _, _, rfl, rfl, _, _, rfl, ?_⟩
    refine ⟨_, rfl, _, rfl, _, rfl, _, _, rfl, rfl, .inl ⟨by decide, by decide⟩, _, _, rfl, rfl, _, _, rfl, rfl, _, rfl, _, _, rfl, rfl, _, _, rfl, ?_⟩
    refine ⟨_, rfl, _, rfl, _, _, rfl, _, rfl, _, _, rfl, rfl, (by show (0 : Int) < (L : Nat); omega), _, rfl, _, rfl, _, _, rfl, three, ?_⟩
    refine fin H (Same.refl H) kz rfl (castmod ?_) ?_
    · show (_ : Int) = ((max (min x (W + 2 * h - 1 - x)) (min y (Hh + 2 * h - 1 - y)) : Nat) : Int)
      omega
    · show (_ : Int) = ((min (min x (W + 2 * h - 1 - x)) (min y (Hh + 2 * h - 1 - y)) : Nat) : Int)
      omega
  · rw [decide_eq_false k1]
    refine iteF ?_
    refine ⟨_, rfl, _, rfl, _, rfl, _, rfl, _, rfl, h, W, Hh, x, y, rfl, hx, hy, fun ps H1 s1 hps => ?_⟩
    refine ⟨_, rfl, ps, _, _, _, rfl, rfl, SqT.of hps, at_zero _ _, ?_⟩
    refine ⟨_, rfl, ps, _, _, _, rfl, rfl, SqT.of hps, at_one _ _ _, ?_⟩
    refine ⟨_, rfl, rfl, _, rfl, ?_⟩
    rw [dvi]
    by_cases k2 : kind = 2
    · rw [decide_eq_true k2]
      refine iteT ?_
      have ek : kk kind = .run := by rw [k2]; rfl
      have kz : knot (kk kind) L h W Hh x y = (1, (RM.seen h W Hh x y).1 % L, (RM.seen h W Hh x y).2) := by rw [kn, ek]
      refine ⟨_, rfl, _, rfl, _, _, rfl, rfl, (by show (0 : Int) < (L : Nat); omega), _, rfl, three, ?_⟩
      exact fin H1 s1 kz rfl (castmod rfl) rfl
    · rw [decide_eq_false k2]
      refine iteF ?_
      have k0 : kind = 0 := by omega
      have ek : kk kind = .set := by rw [k0]; rfl
      have kz : knot (kk kind) L h W Hh x y = (if (RM.seen h W Hh x y).1 < h then (2, (RM.seen h W Hh x y).1, (RM.seen h W Hh x y).2) else (1, ((RM.seen h W Hh x y).1 - h) % L, (RM.seen h W Hh x y).2)) := by rw [kn, ek]
      refine ⟨_, rfl, _, rfl, _, _, rfl, rfl, _, rfl, ?_⟩
      by_cases d : (RM.seen h W Hh x y).1 < h
      · rw [decide_eq_true (show (((RM.seen h W Hh x y).1 : Nat) : Int) < ((h : Nat) : Int) by omega)]
        refine iteT ?_
        refine ⟨_, rfl, _, rfl, three, ?_⟩
        exact fin H1 s1 (kz.trans (if_pos d)) rfl rfl rfl
      · rw [decide_eq_false (show ¬ (((RM.seen h W Hh x y).1 : Nat) : Int) < ((h : Nat) : Int) by omega)]
        refine iteF ?_
        refine ⟨_, rfl, _, rfl, _, _, rfl, rfl, _, rfl, _, _, rfl, rfl, (by show (0 : Int) < (L : Nat); omega), _, rfl, three, ?_⟩
        refine fin H1 s1 (kz.trans (if_neg d)) rfl (castmod ?_) rfl
        omega
theorem chart_all {R : List (List Int)} (h : isChart R = true) : ∀ r ∈ R, r.length = wideOf R := by
  intro r hr
  simp only [isChart, Bool.and_eq_true, List.all_eq_true, decide_eq_true_eq] at h
  exact h.1.2 r hr
/-! ### rug_of -/
theorem chart_item {H : Hp} {p : Addr} {R : List (List Int)} {x y : Nat} (h : ChartAt H p R) (hc : isChart R = true) (hy : y < R.length) (hx : x < wideOf R) :
    ∃ (as : List Addr) (pr : Addr) (r : List Int), H p = some (.lst (as.map V.ref)) ∧ atI (as.map V.ref) (y : Int) = some (.ref pr) ∧ H pr = some (.lst (r.map V.int)) ∧ atI (r.map V.int) (x : Int) = some (.int (item R x y)) := by
  obtain ⟨as, hA, hR⟩ := h
  have hl := hR.len
  have hya : y < as.length := by omega
  obtain ⟨r, hr1, hr2⟩ := hR.get (List.getElem?_eq_getElem hya)
  have hw : r.length = wideOf R := chart_all hc r (List.mem_of_getElem? hr1)
  have hxr : x < r.length := by omega
  refine ⟨as, as[y], r, hA, atI_nat (by rw [List.getElem?_map, List.getElem?_eq_getElem hya]; rfl), hr2, atI_nat ?_⟩
  rw [List.getElem?_map, List.getElem?_eq_getElem hxr]
  have e : item R x y = r[x] := by
    unfold item
    rw [List.getD_eq_getElem?_getD, List.getD_eq_getElem?_getD, hr1, Option.getD_some, List.getElem?_eq_getElem hxr, Option.getD_some]
  rw [e] <;> rfl
theorem src_at {H : Hp} {a b c : Addr} {F S C : List (List Int)} {k : Wqbbch.Kind} {q : Nat × Nat × Nat} (I : In3 k (wideOf S) S.length (wideOf F) F.length q) (cF : ChartAt H a F) (iF : isChart F = true) (cS : ChartAt H b S) (iS : isChart S = true)
    (cC : k = .set → ChartAt H c C ∧ isChart C = true ∧ C.length = S.length ∧ wideOf C = S.length) :
    ∃ (p : Addr) (as : List Addr) (pr : Addr) (r : List Int), atI [V.ref a, V.ref b, V.ref c] ((q.1 : Nat) : Int) = some (.ref p) ∧ H p = some (.lst (as.map V.ref)) ∧ atI (as.map V.ref) ((q.2.2 : Nat) : Int) = some (.ref pr) ∧ H pr = some (.lst (r.map V.int)) ∧ atI (r.map V.int) ((q.2.1 : Nat) : Int) = some (.int (pick F S C q)) := by
  obtain ⟨q1, q2, q3⟩ := q
  have h3 : q1 = 0 ∨ q1 = 1 ∨ q1 = 2 := by have := I.a; have z : q1 ≤ 2 := this; omega
  rcases h3 with rfl | rfl | rfl
  · obtain ⟨i1, i2⟩ := I.f rfl
    obtain ⟨as, pr, r, e1, e2, e3, e4⟩ := chart_item cF iF i2 i1
    exact ⟨a, as, pr, r, at_zero _ _, e1, e2, e3, e4⟩
  · obtain ⟨i1, i2⟩ := I.s rfl
    obtain ⟨as, pr, r, e1, e2, e3, e4⟩ := chart_item cS iS i2 i1
    exact ⟨b, as, pr, r, at_one _ _ _, e1, e2, e3, e4⟩
  · obtain ⟨ik, i1, i2⟩ := I.c rfl
    obtain ⟨c1, c2, c3, c4⟩ := cC ik
    obtain ⟨as, pr, r, e1, e2, e3, e4⟩ := chart_item c1 c2 (by rw [c3]; exact i2) (by rw [c4]; exact i1)
    exact ⟨c, as, pr, r, at_two _ _ _ _, e1, e2, e3, e4⟩
theorem range_map_at {β : Type} (g : Nat → β) {n i : Nat} (h : i < n) : ((List.range n).map g)[i]? = some (g i) := by
  rw [List.getElem?_map, List.getElem?_range h]
  rfl
def spRug : Sp := fun vs H Q _ => ∃ (kind : Int) (a b c : Addr) (F S C : List (List Int)), vs = [.int kind, .ref a, .ref b, .ref c] ∧ ChartAt H a F ∧ ChartAt H b S ∧ ChartAt H c C ∧ isChart F = true ∧ isChart S = true ∧ 0 ≤ kind ∧ kind ≤ 2 ∧
  (kk kind = .set → isChart C = true ∧ C.length = S.length ∧ wideOf C = S.length) ∧ wideOf F + 2 * S.length ≤ 512 ∧ F.length + 2 * S.length ≤ 512 ∧ 1 ≤ wideOf S ∧
  ∀ p H', Same H H' → ChartAt H' p (rug (kk kind) (wideOf S) S.length (wideOf F) F.length F S C) → Q (.ref p) H'
theorem scRug : FnScope ["kind", "field", "strip", "corner_chart", "L", "h", "W", "H", "sources", "rug", "y", "row", "x", "knot"] ["kind", "field", "strip", "corner_chart"] (defScope sRug) := ⟨rfl, rfl, rfl, by decide +kernel, rfl, by decide +kernel, by decide +kernel⟩
theorem ok_rug {fK : Addr} {dK : FuncData} (F : Fun K "rug_of" "rug_of" sRug f fd) (ml : mg "len" = none) (mr : mg "range" = none) (N : Defs K P w mg base 2 "knot_of" ["kind", "L", "h", "W", "H", "x", "y"] spKnot fK dK) :
    FnOk P w K mg base CX0 3 f fd ["kind", "field", "strip", "corner_chart"] spRug := by
  refine F.ok scRug (fun vs H Q E h => ?_) (fun cdv A outer s H vs Q E hr h => ?_)
  · obtain ⟨k, a, b, c, F, S, C, rfl, _⟩ := h
    rfl
  obtain ⟨kind, a, b, c, FF, SS, CC, rfl, hF, hS, hC, iF, iS, hk0, hk2, hset, hw, hh, hL, q⟩ := h
  refine ⟨_, pss_cons (ps_set (i := 4) scRug.nd rfl (.inl rfl) (pe_callB call_len_seq rfl ml PySem.boot_len (pa_cons (pe_ix ix_list (pv 2) pe_int (fun _ _ => rfl)) pa_nil)))
    (pss_cons (ps_set (i := 5) scRug.nd rfl (.inl rfl) (pe_callB call_len_seq rfl ml PySem.boot_len (pa_cons (pv 2) pa_nil)))
    (pss_cons (ps_set (i := 6) scRug.nd rfl (.inl rfl) (pe_callB call_len_seq rfl ml PySem.boot_len (pa_cons (pe_ix ix_list (pv 1) pe_int (fun _ _ => rfl)) pa_nil)))
    (pss_cons (ps_set (i := 7) scRug.nd rfl (.inl rfl) (pe_callB call_len_seq rfl ml PySem.boot_len (pa_cons (pv 1) pa_nil)))
    (pss_cons (ps_set (i := 8) scRug.nd rfl (.inl rfl) (pe_tup (pn 1 (pn 2 (pn 3 pa_nil)))))
    (pss_cons (ps_set (i := 9) scRug.nd rfl (.inl rfl) (pe_lst pa_nil))
    (pss_cons (ps_for PassesOwn.never rfl (pi_range1 rfl mr (pa_cons (pe_op op_add (pv 7) (pe_op op_mul pe_int (pv 5))) pa_nil)) (pg_name (i := 10) scRug.nd rfl (.inl rfl))
      (pss_cons (ps_set (i := 11) scRug.nd rfl (.inl rfl) (pe_lst pa_nil))
      (pss_cons (ps_for PassesOwn.never rfl (pi_range1 rfl mr (pa_cons (pe_op op_add (pv 6) (pe_op op_mul pe_int (pv 5))) pa_nil)) (pg_name (i := 12) scRug.nd rfl (.inl rfl))
        (pss_cons (ps_set (i := 13) scRug.nd rfl (.inl rfl) (pe_call N.G hr rfl N.m N.kp N.b .nil pass0 (pn 0 (pn 4 (pn 5 (pn 6 (pn 7 (pn 12 (pn 10 pa_nil)))))))))
        (pss_one (ps_expr (pe_bm PySem.F.plainAttrs_list PySem.F.slot_list_append PySem.F.type_list_append mt_append (pv 11)
          (pa_cons (pe_ix ix_list (pe_ix ix_list (pe_ix ix_tup (pv 8) (pe_ix ix_tup (pv 13) pe_int (fun _ _ => rfl)) (fun _ _ => rfl)) (pe_ix ix_tup (pv 13) pe_int (fun _ _ => rfl)) (fun _ _ => rfl)) (pe_ix ix_tup (pv 13) pe_int (fun _ _ => rfl)) (fun _ _ => rfl)) pa_nil))))))
      (pss_one (ps_expr (pe_bm PySem.F.plainAttrs_list PySem.F.slot_list_append PySem.F.type_list_append mt_append (pv 9) (pa_cons (pv 11) pa_nil)))))))
    (pss_one (ps_ret (pv 9))))))))), ?_⟩
  obtain ⟨asS, bS, xS, eS, lS, zS, eS0, wS⟩ := row0_at hS iS
  obtain ⟨asF, bF, xF, eF, lF, zF, eF0, wF⟩ := row0_at hF iF
  refine ⟨_, rfl, b, _, _, _, rfl, rfl, SqL.of eS, zS, bS, _, rfl, .inl (SqL.of eS0), ?_⟩
  refine ⟨_, rfl, b, _, rfl, .inl (SqL.of eS), ?_⟩
  refine ⟨_, rfl, a, _, _, _, rfl, rfl, SqL.of eF, zF, bF, _, rfl, .inl (SqL.of eF0), ?_⟩
  refine ⟨_, rfl, a, _, rfl, .inl (SqL.of eF), ?_⟩
  rw [wS, wF, List.length_map, List.length_map, lS, lF]
  refine ⟨_, rfl, _, rfl, _, rfl, (by show 3 ≤ sizeLine; decide), fun ps hps => ?_⟩
  refine ⟨(by show 0 ≤ sizeLine; decide), fun pg hpg => ?_⟩
  have s1 : Same H (upd H ps (.tup [.ref a, .ref b, .ref c])) := same_new hps _
  have hn : (((FF.length : Nat) : Int) + 2 * ((SS.length : Nat) : Int)).toNat = FF.length + 2 * SS.length := by omega
  have hm : (((wideOf FF : Nat) : Int) + 2 * ((SS.length : Nat) : Int)).toNat = wideOf FF + 2 * SS.length := by omega
  have lrug : (rug (kk kind) (wideOf SS) SS.length (wideOf FF) FF.length FF SS CC).length = FF.length + 2 * SS.length := by
    unfold rug
    rw [List.length_map, List.length_range]
  refine ⟨_, rfl, _, rfl, _, _, rfl, rfl, .inl ⟨by decide, by decide⟩, _, _, rfl, rfl, _, rfl, (by omega), (by omega), ?_⟩
  refine for_range (lo := 0) (n := (((FF.length : Nat) : Int) + 2 * ((SS.length : Nat) : Int)).toNat) (fun i σ H' => ∃ (as : List Addr) (v10 v11 v12 v13 : Option V),
    σ = [some (.int kind), some (.ref a), some (.ref b), some (.ref c), some (.int (wideOf SS : Nat)), some (.int (SS.length : Nat)), some (.int (wideOf FF : Nat)), some (.int (FF.length : Nat)), some (.ref ps), some (.ref pg), v10, v11, v12, v13] ∧
    Same (upd H ps (.tup [.ref a, .ref b, .ref c])) H' ∧ H' pg = some (.lst (as.map V.ref)) ∧ RowsAt H' as ((rug (kk kind) (wideOf SS) SS.length (wideOf FF) FF.length FF SS CC).take i) ∧ pg ∉ as)
    ⟨[], none, none, none, none, rfl, same_new hpg _, upd_same, .nil, by simp⟩ ?_ ?_
  · rintro i σ H3 hi ⟨as, v10, v11, v12, v13, rfl, s3, hg, hR, hnot⟩
    have hi' : i < FF.length + 2 * SS.length := by omega
    have e0 : (0 : Int) + ((i : Nat) : Int) = ((i : Nat) : Int) := Int.zero_add _
    rw [e0]
    refine ⟨(by show 0 ≤ sizeLine; decide), fun pw hpw => ?_⟩
    have al := hR.len
    rw [List.length_take] at al
    refine ⟨_, rfl, _, rfl, _, _, rfl, rfl, .inl ⟨by decide, by decide⟩, _, _, rfl, rfl, _, rfl, (by omega), (by omega), ?_⟩
    refine for_range (lo := 0) (n := (((wideOf FF : Nat) : Int) + 2 * ((SS.length : Nat) : Int)).toNat) (fun j σ H4 => ∃ (v12 v13 : Option V),
      σ = [some (.int kind), some (.ref a), some (.ref b), some (.ref c), some (.int (wideOf SS : Nat)), some (.int (SS.length : Nat)), some (.int (wideOf FF : Nat)), some (.int (FF.length : Nat)), some (.ref ps), some (.ref pg), some (.int (i : Nat)), some (.ref pw), v12, v13] ∧
      Same H3 H4 ∧ H4 pw = some (.lst (((rugRow (kk kind) (wideOf SS) SS.length (wideOf FF) FF.length FF SS CC i).take j).map V.int)))
      ⟨v12, v13, rfl, same_new hpw _, upd_same⟩ ?_ ?_
    · rintro j σ H4 hj ⟨v12, v13, rfl, s4, hrow⟩
      have hj' : j < wideOf FF + 2 * SS.length := by omega
      have e0 : (0 : Int) + ((j : Nat) : Int) = ((j : Nat) : Int) := Int.zero_add _
      rw [e0]
      refine ⟨_, rfl, _, rfl, _, rfl, _, rfl, _, rfl, _, rfl, _, rfl, kind, wideOf SS, SS.length, wideOf FF, FF.length, j, i, rfl, hL, hj', hi', hk0, hk2, fun pk H5 s5 hpk => ?_⟩
      have sAll : Same H H5 := s1.trans (s3.trans (s4.trans s5))
      have hps5 : H5 ps = some (.tup [.ref a, .ref b, .ref c]) := s5 _ _ (s4 _ _ (s3 _ _ upd_same))
      have hw5 := s5 _ _ hrow
      have I := knot_in (kk kind) (L := wideOf SS) (h := SS.length) (W := wideOf FF) (H := FF.length) hj' hi' hL
      obtain ⟨p, asp, pr, r, z1, z2, z3, z4, z5⟩ := src_at I (hF.same sAll) iF (hS.same sAll) iS (fun e => ⟨hC.same sAll, hset e⟩)
      refine ⟨_, rfl, .inl ⟨rfl, _, SqL.of hw5⟩, ?_⟩
      refine ⟨_, rfl, _, rfl, pk, _, _, _, rfl, rfl, SqT.of hpk, at_zero _ _, ps, _, _, _, rfl, rfl, SqT.of hps5, z1, ?_⟩
      refine ⟨_, rfl, pk, _, _, _, rfl, rfl, SqT.of hpk, at_two _ _ _ _, p, _, _, _, rfl, rfl, SqL.of z2, z3, ?_⟩
      refine ⟨_, rfl, pk, _, _, _, rfl, rfl, SqT.of hpk, at_one _ _ _, pr, _, _, _, rfl, rfl, SqL.of z4, z5, ?_⟩
      refine ⟨pw, _, _, rfl, rfl, hw5, (by rw [List.length_map, List.length_take]; exact line_small (by omega)), ?_⟩
      refine ⟨some (.int (j : Nat)), some (.ref pk), rfl, same_put (s4.trans s5) hpw _, ?_⟩
      rw [upd_same, take_more (l := rugRow (kk kind) (wideOf SS) SS.length (wideOf FF) FF.length FF SS CC i) (range_map_at (fun x => pick FF SS CC (knot (kk kind) (wideOf SS) SS.length (wideOf FF) FF.length x i)) hj'), List.map_append]
      rfl
    · rintro σ H4 ⟨v12, v13, rfl, s4, hrow⟩
      have hfull : (rugRow (kk kind) (wideOf SS) SS.length (wideOf FF) FF.length FF SS CC i).take (((wideOf FF : Nat) : Int) + 2 * ((SS.length : Nat) : Int)).toNat = rugRow (kk kind) (wideOf SS) SS.length (wideOf FF) FF.length FF SS CC i := by
        rw [hm]
        refine List.take_of_length_le ?_
        unfold rugRow
        rw [List.length_map, List.length_range]
        exact Nat.le_refl _
      rw [hfull] at hrow
      have hg4 := s4 _ _ hg
      have hnew : pw ≠ pg := fun z => by rw [z, hg] at hpw; cases hpw
      refine ⟨_, rfl, .inl ⟨rfl, _, SqL.of hg4⟩, _, rfl, pg, _, _, rfl, rfl, hg4, (by rw [List.length_map, al]; exact line_small (by omega)), ?_⟩
      refine ⟨as ++ [pw], some (.int (i : Nat)), some (.ref pw), v12, v13, rfl, same_put (s3.trans s4) hpg _, ?_, ?_, ?_⟩
      · rw [upd_same, List.map_append]
        rfl
      · have tm := take_more (l := rug (kk kind) (wideOf SS) SS.length (wideOf FF) FF.length FF SS CC) (range_map_at (fun y => rugRow (kk kind) (wideOf SS) SS.length (wideOf FF) FF.length FF SS CC y) hi')
        rw [tm]
        refine ((hR.same s4).push hrow).upd ?_
        intro z
        rcases List.mem_append.mp z with z | z
        · exact hnot z
        · exact hnew (List.mem_singleton.mp z).symm
      · intro z
        rcases List.mem_append.mp z with z | z
        · exact hnot z
        · exact hnew (List.mem_singleton.mp z).symm
  · rintro σ H3 ⟨as, v10, v11, v12, v13, rfl, s3, hg, hR, hnot⟩
    rw [hn, ← lrug, List.take_length] at hR
    exact ⟨_, rfl, q pg H3 (s1.trans s3) ⟨as, hg, hR⟩⟩
theorem flat_len : ∀ (rs : List (List Int)) (n : Nat), (∀ r ∈ rs, r.length = n) → (flat rs).length = rs.length * (n + 1)
  | [], n, _ => by
    show 0 = 0 * (n + 1)
    rw [Nat.zero_mul]
  | r :: rs, n, h => by
    have ih := flat_len rs n fun x hx => h x (List.mem_cons_of_mem _ hx)
    have e : flat (r :: rs) = (r ++ [10]) ++ flat rs := rfl
    rw [e, List.length_append, List.length_append, ih, h r (List.mem_cons_self ..)]
    show n + 1 + rs.length * (n + 1) = (rs.length + 1) * (n + 1)
    rw [Nat.succ_mul]
    omega
theorem chart_small {R : List (List Int)} (h : isChart R = true) : wideOf R ≤ 512 ∧ R.length ≤ 512 ∧ 1 ≤ wideOf R ∧ 1 ≤ R.length := by
  simp only [isChart, sizeOkI, Bool.and_eq_true, decide_eq_true_eq] at h
  omega
theorem parse_chart {ns : List Int} {rs : List (List Int)} (e : parse ns = some rs) : isChart rs = true := by
  unfold parse at e
  cases e1 : parseGo ns [] [] with
  | none => rw [e1] at e; cases e
  | some p =>
    rw [e1] at e
    have e' : (if p.2 = [] ∧ isChart p.1 = true then some p.1 else none) = some rs := e
    by_cases c : p.2 = [] ∧ isChart p.1 = true
    · rw [if_pos c] at e'
      cases e'
      exact c.2
    · rw [if_neg c] at e'
      cases e'
/-! ### round_of -/
theorem rug_len {k : Wqbbch.Kind} {L h W Hh : Nat} {F S C : List (List Int)} : (flat (rug k L h W Hh F S C)).length = (Hh + 2 * h) * (W + 2 * h + 1) := by
  rw [flat_len (rug k L h W Hh F S C) (W + 2 * h)]
  · unfold rug
    rw [List.length_map, List.length_range]
  · intro r hr
    obtain ⟨y, _, rfl⟩ := List.mem_map.mp hr
    unfold rugRow
    rw [List.length_map, List.length_range]
theorem refusal_zero {kind : Int} {F S C : List (List Int)} (h : ¬ refusal kind F S C < 0) : inB kind (wideOf S) S.length (wideOf F) F.length = true ∧ rightCorner kind C S.length = true ∧ sizeOkI (wideOf F + 2 * S.length) (F.length + 2 * S.length) = true := by
  unfold refusal at h
  by_cases c1 : inB kind (wideOf S) S.length (wideOf F) F.length = true ∧ rightCorner kind C S.length = true
  · rw [if_neg (not_not_intro c1)] at h
    by_cases c2 : comesOut kind (wideOf S) S.length (wideOf F) F.length = true
    · rw [if_neg (not_not_intro c2)] at h
      by_cases c3 : sizeOkI (wideOf F + 2 * S.length) (F.length + 2 * S.length) = true
      · exact ⟨c1.1, c1.2, c3⟩
      · rw [if_pos c3] at h
        exact absurd (by decide) h
    · rw [if_pos c2] at h
      exact absurd (by decide) h
  · rw [if_pos c1] at h
    exact absurd (by decide) h
/-- chart_of(c) if c else [], c in the slot 3 -/
def tCorn (K : PySem.W.Frag) : TE := fun σ H Q => ∃ (a : Addr) (ns : List Int), σ[3]? = some (some (.ref a)) ∧ SqL K H a (ns.map V.int) ∧ ns.length ≤ 66048 ∧ ∀ x H', Same H H' → OptCh H' x (cparse ns) → Q x H'
def spRound (K : PySem.W.Frag) : Sp := fun vs H Q _ => ∃ (kind : Int) (a b c : Addr) (t s u : List Int), vs = [.int kind, .ref a, .ref b, .ref c] ∧ 0 ≤ kind ∧ SqL K H a (t.map V.int) ∧ SqL K H b (s.map V.int) ∧ SqL K H c (u.map V.int) ∧ bytesOk t ∧ bytesOk s ∧ bytesOk u ∧
  ∀ p H', H' p = some (.lst ((PyWqbbch.round_of kind t s u).map V.int)) → Q (.ref p) H'
theorem scRound : FnScope ["kind", "t", "s", "c", "field", "strip", "corner_chart", "refusal"] ["kind", "t", "s", "c"] (defScope sRound) := ⟨rfl, rfl, rfl, by decide +kernel, rfl, by decide +kernel, by decide +kernel⟩
theorem ok_round {fL fC fR fT fG : Addr} {dL dC dR dT dG : FuncData} (F : Fun K "round_of" "round_of" sRound f fd) (L : Defs K P w mg base 1 "is_too_long" ["text"] (spLong K) fL dL) (C : Defs K P w mg base 4 "chart_of" ["text"] (spChart K) fC dC)
    (R : Defs K P w mg base 4 "round_refusal" ["kind", "field", "strip", "corner_chart"] spRef fR dR) (T : Defs K P w mg base 2 "told_text" ["chart"] spTold fT dT) (G : Defs K P w mg base 3 "rug_of" ["kind", "field", "strip", "corner_chart"] spRug fG dG) :
    FnOk P w K mg base CX0 5 f fd ["kind", "t", "s", "c"] (spRound K) := by
  refine F.ok scRound (fun vs H Q E h => ?_) (fun cdv A outer s H vs Q E hr h => ?_)
  · obtain ⟨k, a, b, c, t, s, u, rfl, _⟩ := h
    rfl
  obtain ⟨kind, a, b, c, t, s, u, rfl, hk0, ht, hs, hu, bt, bs, bu, q⟩ := h
  rw [round_is hk0 bt bs bu] at q
  have hr1 : Room 1 _ := hr.mono (by decide)
  have hr2 : Room 2 _ := hr.mono (by decide)
  have hr3 : Room 3 _ := hr.mono (by decide)
  refine ⟨_, pss_cons (ps_if (PW.pt (pw_or (pt_val (pe_call L.G hr1 rfl L.m L.kp L.b .nil pass0 (pn 1 pa_nil))) (pw_or (pt_val (pe_call L.G hr1 rfl L.m L.kp L.b .nil pass0 (pn 2 pa_nil))) (pw_or1 (pt_val (pe_call L.G hr1 rfl L.m L.kp L.b .nil pass0 (pn 3 pa_nil)))))))
      (pss_one (ps_ret (pe_lst (pa_cons (pe_un un_neg pe_int) pa_nil)))) pss_nil)
    (pss_cons (ps_set (i := 4) scRound.nd rfl (.inl rfl) (pe_call C.G hr rfl C.m C.kp C.b .nil pass0 (pn 1 pa_nil)))
    (pss_cons (ps_set (i := 5) scRound.nd rfl (.inl rfl) (pe_call C.G hr rfl C.m C.kp C.b .nil pass0 (pn 2 pa_nil)))
    (pss_cons (ps_set (i := 6) scRound.nd rfl (.inl rfl) (PE.weak (t' := tCorn K) (pe_ifExp (pt_truth (pv 3) (by intro _; rfl)) (pe_call C.G hr rfl C.m C.kp C.b .nil pass0 (pn 3 pa_nil)) (pe_lst pa_nil)) (fun σ H Q h => by
      obtain ⟨a, ns, e, hS, hl, q⟩ := h
      refine ⟨_, e, _, .inl ⟨_, hS, rfl⟩, ?_⟩
      cases ns with
      | nil => exact iteF ⟨(by show 0 ≤ sizeLine; decide), fun p hp => q _ _ (same_new hp _) (.inr ⟨p, [], rfl, rfl, [], upd_same, .nil⟩)⟩
      | cons x r => exact iteT ⟨_, e, a, x :: r, rfl, hS, hl, q⟩)))
    (pss_cons (ps_if (PW.pt (pw_or (pt_cmpR op_isN (pv 4) pe_non (nomark _)) (pw_or (pt_cmpR op_isN (pv 5) pe_non (nomark _)) (pw_or1 (pt_cmpR op_isN (pv 6) pe_non (nomark _))))))
      (pss_one (ps_ret (pe_lst (pa_cons (pe_un un_neg pe_int) pa_nil)))) pss_nil)
    (pss_cons (ps_set (i := 7) scRound.nd rfl (.inl rfl) (pe_call R.G hr rfl R.m R.kp R.b .nil pass0 (pn 0 (pn 4 (pn 5 (pn 6 pa_nil))))))
    (pss_cons (ps_if (pt_cmpR op_lt (pv 7) pe_int (nomark _)) (pss_one (ps_ret (pe_lst (pn 7 pa_nil)))) pss_nil)
    (pss_one (ps_ret (pe_call T.G hr2 rfl T.m T.kp T.b .nil pass0 (pa_cons (pe_call G.G hr3 rfl G.m G.kp G.b .nil pass0 (pn 0 (pn 4 (pn 5 (pn 6 pa_nil))))) pa_nil)))))))))), ?_⟩
  have one : (1 : Nat) ≤ sizeLine := by decide
  unfold roundM at q
  have long : (66048 < t.length ∨ 66048 < s.length ∨ 66048 < u.length) → ∀ p H', H' p = some (.lst [.int (-2)]) → Q (.ref p) H' := fun z => by
    rw [if_pos z] at q
    exact q
  refine ⟨_, rfl, a, _, rfl, ht, _, rfl, ?_⟩
  rw [long_iff]
  by_cases c1 : 66048 < t.length
  · rw [decide_eq_true c1]
    exact iteT (iteT ⟨_, rfl, one, fun p hp => long (.inl c1) p _ upd_same⟩)
  rw [decide_eq_false c1]
  refine iteF ?_
  refine ⟨_, rfl, b, _, rfl, hs, _, rfl, ?_⟩
  rw [long_iff]
  by_cases c2 : 66048 < s.length
  · rw [decide_eq_true c2]
    exact iteT (iteT ⟨_, rfl, one, fun p hp => long (.inr (.inl c2)) p _ upd_same⟩)
  rw [decide_eq_false c2]
  refine iteF ?_
  refine ⟨_, rfl, c, _, rfl, hu, _, rfl, ?_⟩
  rw [long_iff]
  by_cases c3 : 66048 < u.length
  · rw [decide_eq_true c3]
    exact iteT ⟨_, rfl, one, fun p hp => long (.inr (.inr c3)) p _ upd_same⟩
  rw [decide_eq_false c3]
  refine iteF ?_
  rw [if_neg (by omega)] at q
  refine ⟨_, rfl, a, t, rfl, ht, by omega, fun x1 H1 s1 o1 => ?_⟩
  refine ⟨_, rfl, b, s, rfl, s1.seq hs, by omega, fun x2 H2 s2 o2 => ?_⟩
  refine ⟨c, u, rfl, (s1.trans s2).seq hu, by omega, fun x3 H3 s3 o3 => ?_⟩
  have wrong : (∀ p H', H' p = some (.lst [.int (-6)]) → Q (.ref p) H') → ∀ p, H3 p = none → Q (.ref p) (upd H3 p (.lst [.int (-6)])) := fun z p hp => z p _ upd_same
  refine ⟨_, rfl, rfl, _, rfl, ?_⟩
  cases e1 : parse t with
  | none =>
    rw [e1] at o1 q
    rw [opt_none o1]
    exact iteT (iteT ⟨_, rfl, one, wrong q⟩)
  | some FF =>
  rw [e1] at o1 q
  obtain ⟨p1, rfl, ch1⟩ := opt_some o1
  rw [dec_ref]
  refine iteF ?_
  refine ⟨_, rfl, rfl, _, rfl, ?_⟩
  cases e2 : parse s with
  | none =>
    rw [e2] at o2 q
    rw [opt_none o2]
    exact iteT (iteT ⟨_, rfl, one, wrong q⟩)
  | some SS =>
  rw [e2] at o2 q
  obtain ⟨p2, rfl, ch2⟩ := opt_some o2
  rw [dec_ref]
  refine iteF ?_
  refine ⟨_, rfl, rfl, _, rfl, ?_⟩
  cases e3 : cparse u with
  | none =>
    rw [e3] at o3 q
    rw [opt_none o3]
    exact iteT ⟨_, rfl, one, wrong q⟩
  | some CC =>
  rw [e3] at o3 q
  obtain ⟨p3, rfl, ch3⟩ := opt_some o3
  rw [dec_ref]
  refine iteF ?_
  have ch1' := (ch1.same s2).same s3
  have ch2' := ch2.same s3
  have iF := parse_chart e1
  have iS := parse_chart e2
  refine ⟨_, rfl, _, rfl, _, rfl, _, rfl, kind, p1, p2, p3, FF, SS, CC, rfl, ch1', ch2', ch3, iF, iS, ?_⟩
  have q' : ∀ p H', H' p = some (.lst ((if refusal kind FF SS CC < 0 then [refusal kind FF SS CC] else
      ((flat (rug (kk kind) (wideOf SS) SS.length (wideOf FF) FF.length FF SS CC)).length : Int) :: flat (rug (kk kind) (wideOf SS) SS.length (wideOf FF) FF.length FF SS CC)).map V.int)) → Q (.ref p) H' := q
  refine ⟨_, rfl, _, _, rfl, rfl, _, rfl, ?_⟩
  by_cases d : refusal kind FF SS CC < 0
  · rw [decide_eq_true d]
    rw [if_pos d] at q'
    exact iteT ⟨_, rfl, one, fun p hp => q' p _ upd_same⟩
  rw [decide_eq_false d]
  rw [if_neg d] at q'
  refine iteF ?_
  obtain ⟨z1, z2, z3⟩ := refusal_zero d
  simp only [inB, sizeOkI, sideI, Bool.and_eq_true, decide_eq_true_eq] at z1 z3
  have small : (flat (rug (kk kind) (wideOf SS) SS.length (wideOf FF) FF.length FF SS CC)).length ≤ 1000000 := by
    rw [rug_len, Nat.mul_succ, Nat.mul_comm]
    omega
  refine ⟨_, rfl, _, rfl, _, rfl, _, rfl, kind, p1, p2, p3, FF, SS, CC, rfl, ch1', ch2', ch3, iF, iS, hk0, z1.1.1, ?_, by omega, by omega, by omega, fun pr H4 s4 ch4 => ?_⟩
  · intro ek
    have k0 : kind = 0 := by
      unfold kk at ek
      by_cases k0 : kind = 0
      · exact k0
      · rw [if_neg k0] at ek
        by_cases k1 : kind = 1
        · rw [if_pos k1] at ek
          cases ek
        · rw [if_neg k1] at ek
          cases ek
    subst k0
    unfold rightCorner at z2
    rw [if_neg (by decide)] at z2
    simp only [Bool.and_eq_true, decide_eq_true_eq] at z2
    refine ⟨?_, z2.1, z2.2⟩
    unfold cparse at e3
    by_cases cu : u = []
    · rw [if_pos cu] at e3
      cases e3
      have y : (0 : Nat) = SS.length := z2.1
      omega
    · rw [if_neg cu] at e3
      exact parse_chart e3
  exact ⟨pr, _, rfl, ch4, small, fun pt H5 s5 ht5 => q' pt H5 ht5⟩
end
theorem bytes_of {l : List Int} (h : l.all (Codec.inInt 0 255) = true) : bytesOk l := fun b hb => Codec.inInt_iff.mp (List.all_eq_true.mp h b hb)
/-- the request and the answer -/
theorem request {K : PySem.W.Frag} {H : Hp} {xs : List V} {a : Codec.denoteAll PySem.Challenge.rw_rugborders_s02_round_of.args} (hwi : Codec.withinAll PySem.Challenge.rw_rugborders_s02_round_of.args a = true) (hx : DwAll K H xs (Codec.encAll PySem.Challenge.rw_rugborders_s02_round_of.args a)) :
    spRound K xs H (fun v H' => Dw K H' v (PySem.Challenge.rw_rugborders_s02_round_of.ret.enc (Codec.app PySem.Challenge.rw_rugborders_s02_round_of.args PySem.Challenge.rw_rugborders_s02_round_of.f a))) (fun _ _ _ => False) := by
  obtain ⟨kind, t, s, c, u⟩ := a
  have q : (Codec.inInt 0 4294967295 kind && ((Codec.inLen 0 70000 t && t.all (Codec.inInt 0 255)) && ((Codec.inLen 0 70000 s && s.all (Codec.inInt 0 255)) && ((Codec.inLen 0 70000 c && c.all (Codec.inInt 0 255)) && true)))) = true := hwi
  simp only [Bool.and_eq_true] at q
  obtain ⟨q1, ⟨_, q2⟩, ⟨_, q3⟩, ⟨_, q4⟩, _⟩ := q
  cases hx with
  | cons h1 hx =>
  cases hx with
  | cons h2 hx =>
  cases hx with
  | cons h3 hx =>
  cases hx with
  | cons h4 hx =>
  cases hx
  cases h1
  cases h2 with
  | lst s2 a2 =>
  cases h3 with
  | lst s3 a3 =>
  cases h4 with
  | lst s4 a4 =>
  have e2 := ints_dw t _ a2
  have e3 := ints_dw s _ a3
  have e4 := ints_dw c _ a4
  subst e2 e3 e4
  exact ⟨kind, _, _, _, t, s, c, rfl, (Codec.inInt_iff.mp q1).1, s2, s3, s4, bytes_of q2, bytes_of q3, bytes_of q4, fun p H' hp => .lst (SqL.of hp) (dw_ints _)⟩
theorem all_mk {P : Program} {w : World} {K : PySem.W.Frag} {h : Heap} {mg : Str → Option Value} {fa f0 f1 f2 f3 f4 f5 f6 f7 f8 f9 f10 f11 f12 f13 f14 f15 f16 f17 f18 : Addr} (X : K.In h) (G : h.Ns mainGlobals mg) (hfa : mg "round_of" = some (.ref fa))
    {od0 an0 od1 an1 od2 an2 od3 an3 od4 an4 od5 an5 od6 an6 od7 an7 od8 an8 od9 an9 od10 an10 od11 an11 od12 an12 od13 an13 od14 an14 od15 an15 od16 an16 od17 an17 od18 an18 : Option Addr} {sl0 sl1 sl2 sl3 sl4 sl5 sl6 sl7 sl8 sl9 sl10 sl11 sl12 sl13 sl14 sl15 sl16 sl17 sl18 : Array (Option Value)} {oc0 kV0 dc0 pm0 cd0 ct0 oc1 kV1 dc1 pm1 cd1 ct1 oc2 kV2 dc2 pm2 cd2 ct2 oc3 kV3 dc3 pm3 cd3 ct3 oc4 kV4 dc4 pm4 cd4 ct4 oc5 kV5 dc5 pm5 cd5 ct5 oc6 kV6 dc6 pm6 cd6 ct6 oc7 kV7 dc7 pm7 cd7 ct7 oc8 kV8 dc8 pm8 cd8 ct8 oc9 kV9 dc9 pm9 cd9 ct9 oc10 kV10 dc10 pm10 cd10 ct10 oc11 kV11 dc11 pm11 cd11 ct11 oc12 kV12 dc12 pm12 cd12 ct12 oc13 kV13 dc13 pm13 cd13 ct13 oc14 kV14 dc14 pm14 cd14 ct14 oc15 kV15 dc15 pm15 cd15 ct15 oc16 kV16 dc16 pm16 cd16 ct16 oc17 kV17 dc17 pm17 cd17 ct17 oc18 kV18 dc18 pm18 cd18 ct18 : Value} {t0 t1 t2 t3 t4 t5 t6 t7 t8 t9 t10 : Tok}
    (a0 : PySem.W.nsIn K mainGlobals "is_too_long" = some (some (.ref f0))) (l0 : K.lookup f0 = some ⟨oc0, od0, .func (PySem.W.fnOf "is_too_long" "is_too_long" (defArgs sLong) (defBody sLong) (defScope sLong) .none kV0 dc0 pm0 an0 cd0 ct0), sl0⟩) (c0 : PySem.W.codeIn K cd0 "is_too_long" = true) (k0 : PySem.W.keepIn K (.ref f0) = true)
    (a1 : PySem.W.nsIn K mainGlobals "is_colour" = some (some (.ref f1))) (l1 : K.lookup f1 = some ⟨oc1, od1, .func (PySem.W.fnOf "is_colour" "is_colour" (defArgs sCol) (defBody sCol) (defScope sCol) .none kV1 dc1 pm1 an1 cd1 ct1), sl1⟩) (c1 : PySem.W.codeIn K cd1 "is_colour" = true) (k1 : PySem.W.keepIn K (.ref f1) = true)
    (a2 : PySem.W.nsIn K mainGlobals "is_side" = some (some (.ref f2))) (l2 : K.lookup f2 = some ⟨oc2, od2, .func (PySem.W.fnOf "is_side" "is_side" (defArgs sSide) (defBody sSide) (defScope sSide) .none kV2 dc2 pm2 an2 cd2 ct2), sl2⟩) (c2 : PySem.W.codeIn K cd2 "is_side" = true) (k2 : PySem.W.keepIn K (.ref f2) = true)
    (a3 : PySem.W.nsIn K mainGlobals "is_chart_size" = some (some (.ref f3))) (l3 : K.lookup f3 = some ⟨oc3, od3, .func (PySem.W.fnOf "is_chart_size" "is_chart_size" (defArgs sSize) (defBody sSize) (defScope sSize) .none kV3 dc3 pm3 an3 cd3 ct3), sl3⟩) (c3 : PySem.W.codeIn K cd3 "is_chart_size" = true) (k3 : PySem.W.keepIn K (.ref f3) = true)
    (a4 : PySem.W.nsIn K mainGlobals "is_chart" = some (some (.ref f4))) (l4 : K.lookup f4 = some ⟨oc4, od4, .func (PySem.W.fnOf "is_chart" "is_chart" (defArgs sIsCh) (defBody sIsCh) (defScope sIsCh) .none kV4 dc4 pm4 an4 cd4 ct4), sl4⟩) (c4 : PySem.W.codeIn K cd4 "is_chart" = true) (k4 : PySem.W.keepIn K (.ref f4) = true)
    (a5 : PySem.W.nsIn K mainGlobals "chart_of" = some (some (.ref f5))) (l5 : K.lookup f5 = some ⟨oc5, od5, .func (PySem.W.fnOf "chart_of" "chart_of" (defArgs sChart) (defBody sChart) (defScope sChart) .none kV5 dc5 pm5 an5 cd5 ct5), sl5⟩) (c5 : PySem.W.codeIn K cd5 "chart_of" = true) (k5 : PySem.W.keepIn K (.ref f5) = true)
    (a6 : PySem.W.nsIn K mainGlobals "is_depth" = some (some (.ref f6))) (l6 : K.lookup f6 = some ⟨oc6, od6, .func (PySem.W.fnOf "is_depth" "is_depth" (defArgs sDep) (defBody sDep) (defScope sDep) .none kV6 dc6 pm6 an6 cd6 ct6), sl6⟩) (c6 : PySem.W.codeIn K cd6 "is_depth" = true) (k6 : PySem.W.keepIn K (.ref f6) = true)
    (a7 : PySem.W.nsIn K mainGlobals "is_border" = some (some (.ref f7))) (l7 : K.lookup f7 = some ⟨oc7, od7, .func (PySem.W.fnOf "is_border" "is_border" (defArgs sBord) (defBody sBord) (defScope sBord) .none kV7 dc7 pm7 an7 cd7 ct7), sl7⟩) (c7 : PySem.W.codeIn K cd7 "is_border" = true) (k7 : PySem.W.keepIn K (.ref f7) = true)
    (a8 : PySem.W.nsIn K mainGlobals "in_bounds" = some (some (.ref f8))) (l8 : K.lookup f8 = some ⟨oc8, od8, .func (PySem.W.fnOf "in_bounds" "in_bounds" (defArgs sInB) (defBody sInB) (defScope sInB) .none kV8 dc8 pm8 an8 cd8 ct8), sl8⟩) (c8 : PySem.W.codeIn K cd8 "in_bounds" = true) (k8 : PySem.W.keepIn K (.ref f8) = true)
    (a9 : PySem.W.nsIn K mainGlobals "is_right_corner" = some (some (.ref f9))) (l9 : K.lookup f9 = some ⟨oc9, od9, .func (PySem.W.fnOf "is_right_corner" "is_right_corner" (defArgs sCorn) (defBody sCorn) (defScope sCorn) .none kV9 dc9 pm9 an9 cd9 ct9), sl9⟩) (c9 : PySem.W.codeIn K cd9 "is_right_corner" = true) (k9 : PySem.W.keepIn K (.ref f9) = true)
    (a10 : PySem.W.nsIn K mainGlobals "comes_out_along" = some (some (.ref f10))) (l10 : K.lookup f10 = some ⟨oc10, od10, .func (PySem.W.fnOf "comes_out_along" "comes_out_along" (defArgs sAlong) (defBody sAlong) (defScope sAlong) .none kV10 dc10 pm10 an10 cd10 ct10), sl10⟩) (c10 : PySem.W.codeIn K cd10 "comes_out_along" = true) (k10 : PySem.W.keepIn K (.ref f10) = true)
    (a11 : PySem.W.nsIn K mainGlobals "comes_out" = some (some (.ref f11))) (l11 : K.lookup f11 = some ⟨oc11, od11, .func (PySem.W.fnOf "comes_out" "comes_out" (defArgs sOut) (defBody sOut) (defScope sOut) .none kV11 dc11 pm11 an11 cd11 ct11), sl11⟩) (c11 : PySem.W.codeIn K cd11 "comes_out" = true) (k11 : PySem.W.keepIn K (.ref f11) = true)
    (a12 : PySem.W.nsIn K mainGlobals "round_refusal" = some (some (.ref f12))) (l12 : K.lookup f12 = some ⟨oc12, od12, .func (PySem.W.fnOf "round_refusal" "round_refusal" (defArgs sRef) (defBody sRef) (defScope sRef) .none kV12 dc12 pm12 an12 cd12 ct12), sl12⟩) (c12 : PySem.W.codeIn K cd12 "round_refusal" = true) (k12 : PySem.W.keepIn K (.ref f12) = true)
    (a13 : PySem.W.nsIn K mainGlobals "text_of" = some (some (.ref f13))) (l13 : K.lookup f13 = some ⟨oc13, od13, .func (PySem.W.fnOf "text_of" "text_of" (defArgs sText) (defBody sText) (defScope sText) .none kV13 dc13 pm13 an13 cd13 ct13), sl13⟩) (c13 : PySem.W.codeIn K cd13 "text_of" = true) (k13 : PySem.W.keepIn K (.ref f13) = true)
    (a14 : PySem.W.nsIn K mainGlobals "told_text" = some (some (.ref f14))) (l14 : K.lookup f14 = some ⟨oc14, od14, .func (PySem.W.fnOf "told_text" "told_text" (defArgs sTold) (defBody sTold) (defScope sTold) .none kV14 dc14 pm14 an14 cd14 ct14), sl14⟩) (c14 : PySem.W.codeIn K cd14 "told_text" = true) (k14 : PySem.W.keepIn K (.ref f14) = true)
    (a15 : PySem.W.nsIn K mainGlobals "seen_from_side" = some (some (.ref f15))) (l15 : K.lookup f15 = some ⟨oc15, od15, .func (PySem.W.fnOf "seen_from_side" "seen_from_side" (defArgs sSeen) (defBody sSeen) (defScope sSeen) .none kV15 dc15 pm15 an15 cd15 ct15), sl15⟩) (c15 : PySem.W.codeIn K cd15 "seen_from_side" = true) (k15 : PySem.W.keepIn K (.ref f15) = true)
    (a16 : PySem.W.nsIn K mainGlobals "knot_of" = some (some (.ref f16))) (l16 : K.lookup f16 = some ⟨oc16, od16, .func (PySem.W.fnOf "knot_of" "knot_of" (defArgs sKnot) (defBody sKnot) (defScope sKnot) .none kV16 dc16 pm16 an16 cd16 ct16), sl16⟩) (c16 : PySem.W.codeIn K cd16 "knot_of" = true) (k16 : PySem.W.keepIn K (.ref f16) = true)
    (a17 : PySem.W.nsIn K mainGlobals "rug_of" = some (some (.ref f17))) (l17 : K.lookup f17 = some ⟨oc17, od17, .func (PySem.W.fnOf "rug_of" "rug_of" (defArgs sRug) (defBody sRug) (defScope sRug) .none kV17 dc17 pm17 an17 cd17 ct17), sl17⟩) (c17 : PySem.W.codeIn K cd17 "rug_of" = true) (k17 : PySem.W.keepIn K (.ref f17) = true)
    (a18 : PySem.W.nsIn K mainGlobals "round_of" = some (some (.ref f18))) (l18 : K.lookup f18 = some ⟨oc18, od18, .func (PySem.W.fnOf "round_of" "round_of" (defArgs sRound) (defBody sRound) (defScope sRound) .none kV18 dc18 pm18 an18 cd18 ct18), sl18⟩) (c18 : PySem.W.codeIn K cd18 "round_of" = true) (k18 : PySem.W.keepIn K (.ref f18) = true)
    (u0 : PySem.W.nsIn K mainGlobals "ROW_END" = some (some (.int 10 t0)))
    (u1 : PySem.W.nsIn K mainGlobals "MOST_SIDE" = some (some (.int 512 t1)))
    (u2 : PySem.W.nsIn K mainGlobals "MOST_KNOTS" = some (some (.int 65536 t2)))
    (u3 : PySem.W.nsIn K mainGlobals "MOST_BYTES" = some (some (.int 66048 t3)))
    (u4 : PySem.W.nsIn K mainGlobals "SET" = some (some (.int 0 t4)))
    (u5 : PySem.W.nsIn K mainGlobals "MET" = some (some (.int 1 t5)))
    (u6 : PySem.W.nsIn K mainGlobals "RUN" = some (some (.int 2 t6)))
    (u7 : PySem.W.nsIn K mainGlobals "MOST_DEPTH" = some (some (.int 128 t7)))
    (u8 : PySem.W.nsIn K mainGlobals "OF_FIELD" = some (some (.int 0 t8)))
    (u9 : PySem.W.nsIn K mainGlobals "OF_STRIP" = some (some (.int 1 t9)))
    (u10 : PySem.W.nsIn K mainGlobals "OF_CORNER" = some (some (.int 2 t10)))
    (z0 : PySem.W.nsIn K mainGlobals "len" = some none)
    (z1 : PySem.W.nsIn K mainGlobals "max" = some none)
    (z2 : PySem.W.nsIn K mainGlobals "min" = some none)
    (z3 : PySem.W.nsIn K mainGlobals "range" = some none) :
    ∃ fd : FuncData, (∀ (s : Shared) (us : List Value), us.length = (["kind", "t", "s", "c"] : List Str).length → BindsTo s fd ⟨us, []⟩ ((["kind", "t", "s", "c"] : List Str).zip us)) ∧ ∀ base : Heap, K.In base → base.Ns mainGlobals mg → FnOk P w K mg base CX0 5 fa fd ["kind", "t", "s", "c"] (spRound K) := by
  have e := hfa.symm.trans (PySem.W.mg_of X G a18)
  cases e
  have F0 := fun_mk (st := sLong) l0 c0 k0
  have m0 := PySem.W.mg_of X G a0
  have F1 := fun_mk (st := sCol) l1 c1 k1
  have m1 := PySem.W.mg_of X G a1
  have F2 := fun_mk (st := sSide) l2 c2 k2
  have m2 := PySem.W.mg_of X G a2
  have F3 := fun_mk (st := sSize) l3 c3 k3
  have m3 := PySem.W.mg_of X G a3
  have F4 := fun_mk (st := sIsCh) l4 c4 k4
  have m4 := PySem.W.mg_of X G a4
  have F5 := fun_mk (st := sChart) l5 c5 k5
  have m5 := PySem.W.mg_of X G a5
  have F6 := fun_mk (st := sDep) l6 c6 k6
  have m6 := PySem.W.mg_of X G a6
  have F7 := fun_mk (st := sBord) l7 c7 k7
  have m7 := PySem.W.mg_of X G a7
  have F8 := fun_mk (st := sInB) l8 c8 k8
  have m8 := PySem.W.mg_of X G a8
  have F9 := fun_mk (st := sCorn) l9 c9 k9
  have m9 := PySem.W.mg_of X G a9
  have F10 := fun_mk (st := sAlong) l10 c10 k10
  have m10 := PySem.W.mg_of X G a10
  have F11 := fun_mk (st := sOut) l11 c11 k11
  have m11 := PySem.W.mg_of X G a11
  have F12 := fun_mk (st := sRef) l12 c12 k12
  have m12 := PySem.W.mg_of X G a12
  have F13 := fun_mk (st := sText) l13 c13 k13
  have m13 := PySem.W.mg_of X G a13
  have F14 := fun_mk (st := sTold) l14 c14 k14
  have m14 := PySem.W.mg_of X G a14
  have F15 := fun_mk (st := sSeen) l15 c15 k15
  have m15 := PySem.W.mg_of X G a15
  have F16 := fun_mk (st := sKnot) l16 c16 k16
  have m16 := PySem.W.mg_of X G a16
  have F17 := fun_mk (st := sRug) l17 c17 k17
  have m17 := PySem.W.mg_of X G a17
  have F18 := fun_mk (st := sRound) l18 c18 k18
  have m18 := PySem.W.mg_of X G a18
  have v_ROW_END := PySem.W.mg_of X G u0
  have v_MOST_SIDE := PySem.W.mg_of X G u1
  have v_MOST_KNOTS := PySem.W.mg_of X G u2
  have v_MOST_BYTES := PySem.W.mg_of X G u3
  have v_SET := PySem.W.mg_of X G u4
  have v_MET := PySem.W.mg_of X G u5
  have v_RUN := PySem.W.mg_of X G u6
  have v_MOST_DEPTH := PySem.W.mg_of X G u7
  have v_OF_FIELD := PySem.W.mg_of X G u8
  have v_OF_STRIP := PySem.W.mg_of X G u9
  have v_OF_CORNER := PySem.W.mg_of X G u10
  have n_len := PySem.W.mg_none_of X G z0
  have n_max := PySem.W.mg_none_of X G z1
  have n_min := PySem.W.mg_none_of X G z2
  have n_range := PySem.W.mg_none_of X G z3
  refine ⟨PySem.W.fnOf "round_of" "round_of" (defArgs sRound) (defBody sRound) (defScope sRound) .none kV18 dc18 pm18 an18 cd18 ct18, fun s us hu => match us, hu with | [_, _, _, _], _ => .of_eq rfl, fun base _ _ => ?_⟩
  have b0 := F0.binds (ps := ["text"]) fun _ _ _ _ _ _ us hl => match us, hl with | [_], _ => rfl
  have b1 := F1.binds (ps := ["byte"]) fun _ _ _ _ _ _ us hl => match us, hl with | [_], _ => rfl
  have b2 := F2.binds (ps := ["number"]) fun _ _ _ _ _ _ us hl => match us, hl with | [_], _ => rfl
  have b3 := F3.binds (ps := ["width", "height"]) fun _ _ _ _ _ _ us hl => match us, hl with | [_, _], _ => rfl
  have b4 := F4.binds (ps := ["rows"]) fun _ _ _ _ _ _ us hl => match us, hl with | [_], _ => rfl
  have b5 := F5.binds (ps := ["text"]) fun _ _ _ _ _ _ us hl => match us, hl with | [_], _ => rfl
  have b6 := F6.binds (ps := ["h"]) fun _ _ _ _ _ _ us hl => match us, hl with | [_], _ => rfl
  have b7 := F7.binds (ps := ["kind", "L", "h"]) fun _ _ _ _ _ _ us hl => match us, hl with | [_, _, _], _ => rfl
  have b8 := F8.binds (ps := ["kind", "L", "h", "W", "H"]) fun _ _ _ _ _ _ us hl => match us, hl with | [_, _, _, _, _], _ => rfl
  have b9 := F9.binds (ps := ["kind", "corner_chart", "h"]) fun _ _ _ _ _ _ us hl => match us, hl with | [_, _, _], _ => rfl
  have b10 := F10.binds (ps := ["kind", "L", "h", "side"]) fun _ _ _ _ _ _ us hl => match us, hl with | [_, _, _, _], _ => rfl
  have b11 := F11.binds (ps := ["kind", "L", "h", "W", "H"]) fun _ _ _ _ _ _ us hl => match us, hl with | [_, _, _, _, _], _ => rfl
  have b12 := F12.binds (ps := ["kind", "field", "strip", "corner_chart"]) fun _ _ _ _ _ _ us hl => match us, hl with | [_, _, _, _], _ => rfl
  have b13 := F13.binds (ps := ["chart"]) fun _ _ _ _ _ _ us hl => match us, hl with | [_], _ => rfl
  have b14 := F14.binds (ps := ["chart"]) fun _ _ _ _ _ _ us hl => match us, hl with | [_], _ => rfl
  have b15 := F15.binds (ps := ["h", "W", "H", "x", "y"]) fun _ _ _ _ _ _ us hl => match us, hl with | [_, _, _, _, _], _ => rfl
  have b16 := F16.binds (ps := ["kind", "L", "h", "W", "H", "x", "y"]) fun _ _ _ _ _ _ us hl => match us, hl with | [_, _, _, _, _, _, _], _ => rfl
  have b17 := F17.binds (ps := ["kind", "field", "strip", "corner_chart"]) fun _ _ _ _ _ _ us hl => match us, hl with | [_, _, _, _], _ => rfl
  have D0 : Defs K P w mg base _ "is_too_long" _ _ _ _ := ⟨ok_long (P := P) (w := w) (base := base) F0 n_len v_MOST_BYTES, b0, k0, m0⟩
  have D1 : Defs K P w mg base _ "is_colour" _ _ _ _ := ⟨ok_col (P := P) (w := w) (base := base) F1 , b1, k1, m1⟩
  have D2 : Defs K P w mg base _ "is_side" _ _ _ _ := ⟨ok_side (P := P) (w := w) (base := base) F2 v_MOST_SIDE, b2, k2, m2⟩
  have D3 : Defs K P w mg base _ "is_chart_size" _ _ _ _ := ⟨ok_size (P := P) (w := w) (base := base) F3 D2.G b2 k2 m2 v_MOST_KNOTS, b3, k3, m3⟩
  have D4 : Defs K P w mg base _ "is_chart" _ _ _ _ := ⟨ok_isCh (P := P) (w := w) (base := base) F4 D3.G b3 k3 m3 n_len, b4, k4, m4⟩
  have D5 : Defs K P w mg base _ "chart_of" _ _ _ _ := ⟨ok_chart (P := P) (w := w) (base := base) F5 D1.G b1 k1 m1 D4.G b4 k4 m4 v_ROW_END, b5, k5, m5⟩
  have D6 : Defs K P w mg base _ "is_depth" _ _ _ _ := ⟨ok_dep (P := P) (w := w) (base := base) F6 v_MOST_DEPTH, b6, k6, m6⟩
  have D7 : Defs K P w mg base _ "is_border" _ _ _ _ := ⟨ok_bord (P := P) (w := w) (base := base) F7 v_RUN D2 D6, b7, k7, m7⟩
  have D8 : Defs K P w mg base _ "in_bounds" _ _ _ _ := ⟨ok_inB (P := P) (w := w) (base := base) F8 D7 D2, b8, k8, m8⟩
  have D9 : Defs K P w mg base _ "is_right_corner" _ _ _ _ := ⟨ok_corn (P := P) (w := w) (base := base) F9 v_SET n_len, b9, k9, m9⟩
  have D10 : Defs K P w mg base _ "comes_out_along" _ _ _ _ := ⟨ok_along (P := P) (w := w) (base := base) F10 v_SET v_MET, b10, k10, m10⟩
  have D11 : Defs K P w mg base _ "comes_out" _ _ _ _ := ⟨ok_out (P := P) (w := w) (base := base) F11 D10, b11, k11, m11⟩
  have D12 : Defs K P w mg base _ "round_refusal" _ _ _ _ := ⟨ok_ref (P := P) (w := w) (base := base) F12 n_len D8 D9 D11 D3, b12, k12, m12⟩
  have D13 : Defs K P w mg base _ "text_of" _ _ _ _ := ⟨ok_text (P := P) (w := w) (base := base) F13 v_ROW_END, b13, k13, m13⟩
  have D14 : Defs K P w mg base _ "told_text" _ _ _ _ := ⟨ok_told (P := P) (w := w) (base := base) F14 n_len D13, b14, k14, m14⟩
  have D15 : Defs K P w mg base _ "seen_from_side" _ _ _ _ := ⟨ok_seen (P := P) (w := w) (base := base) F15 , b15, k15, m15⟩
  have D16 : Defs K P w mg base _ "knot_of" _ _ _ _ := ⟨ok_knot (P := P) (w := w) (base := base) F16 D15 v_OF_FIELD v_OF_STRIP v_OF_CORNER v_MET v_RUN n_min n_max, b16, k16, m16⟩
  have D17 : Defs K P w mg base _ "rug_of" _ _ _ _ := ⟨ok_rug (P := P) (w := w) (base := base) F17 n_len n_range D16, b17, k17, m17⟩
  exact ok_round F18 D0 D5 D12 D14 D17
end RH
open PySem PySem.W PyProof.Rows
set_option maxRecDepth 100000 in
set_option maxHeartbeats 8000000 in
theorem PySem.Challenge.cw_rugborders_s02_round_of_holds : PySem.Challenge.rw_rugborders_s02_round_of.Holds := by
  w_on; k_headS; (case hw => exact ⟨[.int 0, .list [], .list [], .list []], by decide +kernel, by decide +kernel⟩)
  k_fillS
  refine L2.walk_specK (r := PySem.Challenge.rw_rugborders_s02_round_of) (k := 5) (CX := L2.CX0) (ps := ["kind", "t", "s", "c"]) (sp := RH.spRound) (by decide +kernel) rfl rfl ⟨rfl, by decide, by decide⟩ (fun w h Y => PySem.W.kIn_of Y) ?F ?S (fun _ _ _ _ z => z)
  case F =>
    intro w mg fa h Y KX G hmg
    refine' RH.all_mk KX G hmg ?a0 ?l0 ?c0 ?k0 ?a1 ?l1 ?c1 ?k1 ?a2 ?l2 ?c2 ?k2 ?a3 ?l3 ?c3 ?k3 ?a4 ?l4 ?c4 ?k4 ?a5 ?l5 ?c5 ?k5 ?a6 ?l6 ?c6 ?k6 ?a7 ?l7 ?c7 ?k7 ?a8 ?l8 ?c8 ?k8 ?a9 ?l9 ?c9 ?k9 ?a10 ?l10 ?c10 ?k10 ?a11 ?l11 ?c11 ?k11 ?a12 ?l12 ?c12 ?k12 ?a13 ?l13 ?c13 ?k13 ?a14 ?l14 ?c14 ?k14 ?a15 ?l15 ?c15 ?k15 ?a16 ?l16 ?c16 ?k16 ?a17 ?l17 ?c17 ?k17 ?a18 ?l18 ?c18 ?k18 ?u0 ?u1 ?u2 ?u3 ?u4 ?u5 ?u6 ?u7 ?u8 ?u9 ?u10 ?z0 ?z1 ?z2 ?z3
    (case a0 => k_is)
    (case l0 => k_is)
    (case c0 => k_is)
    (case k0 => k_is)
    (case a1 => k_is)
    (case l1 => k_is)
    (case c1 => k_is)
    (case k1 => k_is)
    (case a2 => k_is)
    (case l2 => k_is)
    (case c2 => k_is)
    (case k2 => k_is)
    (case a3 => k_is)
    (case l3 => k_is)
    (case c3 => k_is)
    (case k3 => k_is)
    (case a4 => k_is)
    (case l4 => k_is)
    (case c4 => k_is)
    (case k4 => k_is)
    (case a5 => k_is)
    (case l5 => k_is)
    (case c5 => k_is)
    (case k5 => k_is)
    (case a6 => k_is)
    (case l6 => k_is)
    (case c6 => k_is)
    (case k6 => k_is)
    (case a7 => k_is)
    (case l7 => k_is)
    (case c7 => k_is)
    (case k7 => k_is)
    (case a8 => k_is)
    (case l8 => k_is)
    (case c8 => k_is)
    (case k8 => k_is)
    (case a9 => k_is)
    (case l9 => k_is)
    (case c9 => k_is)
    (case k9 => k_is)
    (case a10 => k_is)
    (case l10 => k_is)
    (case c10 => k_is)
    (case k10 => k_is)
    (case a11 => k_is)
    (case l11 => k_is)
    (case c11 => k_is)
    (case k11 => k_is)
    (case a12 => k_is)
    (case l12 => k_is)
    (case c12 => k_is)
    (case k12 => k_is)
    (case a13 => k_is)
    (case l13 => k_is)
    (case c13 => k_is)
    (case k13 => k_is)
    (case a14 => k_is)
    (case l14 => k_is)
    (case c14 => k_is)
    (case k14 => k_is)
    (case a15 => k_is)
    (case l15 => k_is)
    (case c15 => k_is)
    (case k15 => k_is)
    (case a16 => k_is)
    (case l16 => k_is)
    (case c16 => k_is)
    (case k16 => k_is)
    (case a17 => k_is)
    (case l17 => k_is)
    (case c17 => k_is)
    (case k17 => k_is)
    (case a18 => k_is)
    (case l18 => k_is)
    (case c18 => k_is)
    (case k18 => k_is)
    (case u0 => k_is)
    (case u1 => k_is)
    (case u2 => k_is)
    (case u3 => k_is)
    (case u4 => k_is)
    (case u5 => k_is)
    (case u6 => k_is)
    (case u7 => k_is)
    (case u8 => k_is)
    (case u9 => k_is)
    (case u10 => k_is)
    (case z0 => k_is)
    (case z1 => k_is)
    (case z2 => k_is)
    (case z3 => k_is)
  case S =>
    intro K H xs a hO hwi hask hx
    exact RH.request hwi hx
