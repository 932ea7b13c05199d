import PyProof.Rows.All
import Wide.All
import OpenK.AllK
import Wide.FinOn
import Open.SpecLaws
import KE.OsGo
import HandS.ForSpec
import HandS.Flow
import HandS.Comp
import HandS.Iter
import HandS.Walk
import PySem.Challenge.RW_rugborders_s01_fits
set_option Elab.async false
set_option linter.all false
set_option maxRecDepth 100000
set_option maxHeartbeats 4000000
namespace RM
open Wqbbch
/-! ### a chart's text -/
def bi (k : Nat) : Int := ((byteOf k).toNat : Int)
def encRows (rows : List (List Nat)) : List (List Int) := rows.map fun r => r.map bi
def enc (c : Chart) : List (List Int) := encRows c.rows
def flat (rows : List (List Int)) : List Int := rows.flatMap fun r => r ++ [10]
def isCol (b : Int) : Bool := (decide (97 ≤ b) && decide (b ≤ 122)) || ((decide (65 ≤ b) && decide (b ≤ 90)) || (decide (48 ≤ b) && decide (b ≤ 57)))
def dec (b : Int) : Nat := ((List.range 62).find? fun k => decide (bi k = b)).getD 0
theorem bi_col : ∀ k, k < 62 → isCol (bi k) = true ∧ bi k ≠ 10 := by decide +kernel
theorem col_dec0 : ∀ n : Nat, n < 128 → isCol (n : Int) = true → dec (n : Int) < 62 ∧ bi (dec (n : Int)) = (n : Int) := by decide +kernel
theorem col_range {b : Int} (h : isCol b = true) : 48 ≤ b ∧ b ≤ 122 := by
  simp only [isCol, Bool.or_eq_true, Bool.and_eq_true, decide_eq_true_eq] at h
  omega
theorem col_dec {b : Int} (h : isCol b = true) : dec b < 62 ∧ bi (dec b) = b := by
  have r := col_range h
  have e : b = ((b.toNat : Nat) : Int) := by omega
  have q := col_dec0 b.toNat (by omega) (by rw [← e]; exact h)
  rw [← e] at q
  exact q
theorem colour_byte : ∀ k, k < 62 → colourOf (byteOf k) = some k := by decide +kernel
theorem byte_lf : ∀ k, k < 62 → byteOf k ≠ LF := by decide +kernel
/-! ### the reading loop -/
def parseGo : List Int → List (List Int) → List Int → Option (List (List Int) × List Int)
  | [], rows, row => some (rows, row)
  | b :: r, rows, row => if b = 10 then parseGo r (rows ++ [row]) [] else if isCol b = true then parseGo r rows (row ++ [b]) else none
def sizeOkI (w h : Nat) : Bool := decide (1 ≤ w) && decide (w ≤ 512) && (decide (1 ≤ h) && decide (h ≤ 512)) && decide (w * h ≤ 65536)
def wideOf (rows : List (List Int)) : Nat := (rows.headD []).length
def isChart (rows : List (List Int)) : Bool := !rows.isEmpty && rows.all (fun r => decide (r.length = wideOf rows)) && sizeOkI (wideOf rows) rows.length
def parse (ns : List Int) : Option (List (List Int)) := match parseGo ns [] [] with
  | none => none
  | some (rows, row) => if row = [] ∧ isChart rows = true then some rows else none
def allCol (r : List Int) : Prop := ∀ b ∈ r, isCol b = true
theorem parse_row : ∀ (r : List Int) (rest : List Int) (rows : List (List Int)) (row : List Int), allCol r → parseGo (r ++ 10 :: rest) rows row = parseGo rest (rows ++ [row ++ r]) []
  | [], rest, rows, row, _ => by
    show (if (10 : Int) = 10 then parseGo rest (rows ++ [row]) [] else _) = _
    rw [if_pos rfl, List.append_nil]
  | b :: r, rest, rows, row, h => by
    have hb : isCol b = true := h b (List.mem_cons_self ..)
    have nb : b ≠ 10 := by have := col_range hb; omega
    show (if b = 10 then parseGo (r ++ 10 :: rest) (rows ++ [row]) [] else if isCol b = true then parseGo (r ++ 10 :: rest) rows (row ++ [b]) else none) = _
    rw [if_neg nb, if_pos hb, parse_row r rest rows (row ++ [b]) fun x hx => h x (List.mem_cons_of_mem _ hx), List.append_assoc] <;> rfl
theorem parse_flat : ∀ (l rows : List (List Int)), (∀ r ∈ l, allCol r) → parseGo (flat l) rows [] = some (rows ++ l, [])
  | [], rows, _ => by
    show some (rows, []) = _
    rw [List.append_nil]
  | r :: l, rows, h => by
    have e : flat (r :: l) = r ++ 10 :: flat l := by simp [flat]
    rw [e, parse_row _ _ _ _ (h r (List.mem_cons_self ..)), parse_flat l _ fun x hx => h x (List.mem_cons_of_mem _ hx)]
    simp
theorem parse_inv : ∀ (ns : List Int) (rows : List (List Int)) (row : List Int) (R : List (List Int)) (q : List Int), parseGo ns rows row = some (R, q) → (∀ r ∈ rows, allCol r) → allCol row → (∀ r ∈ R, allCol r) ∧ allCol q ∧ flat R ++ q = flat rows ++ row ++ ns
  | [], rows, row, R, q, e, h1, h2 => by
    have e' : (rows, row) = (R, q) := Option.some.inj e
    cases e'
    exact ⟨h1, h2, by rw [List.append_nil]⟩
  | b :: r, rows, row, R, q, e, h1, h2 => by
    have e' : (if b = 10 then parseGo r (rows ++ [row]) [] else if isCol b = true then parseGo r rows (row ++ [b]) else none) = some (R, q) := e
    by_cases hb : b = 10
    · rw [if_pos hb] at e'
      have z := parse_inv r _ _ R q e' (by
        intro x hx
        rcases List.mem_append.mp hx with hx | hx
        · exact h1 x hx
        · rw [List.mem_singleton] at hx
          rw [hx]; exact h2) (by intro x hx; cases hx)
      refine ⟨z.1, z.2.1, z.2.2.trans ?_⟩
      subst hb
      simp [flat]
    · rw [if_neg hb] at e'
      by_cases hc : isCol b = true
      · rw [if_pos hc] at e'
        have z := parse_inv r _ _ R q e' h1 (by
          intro x hx
          rcases List.mem_append.mp hx with hx | hx
          · exact h2 x hx
          · rw [List.mem_singleton] at hx
            rw [hx]; exact hc)
        refine ⟨z.1, z.2.1, z.2.2.trans ?_⟩
        simp
      · rw [if_neg hc] at e'
        cases e'
/-! ### charts of the specification -/
theorem right_iff {c : Chart} : c.right = true ↔ (1 ≤ c.wide ∧ c.wide ≤ 512 ∧ 1 ≤ c.high ∧ c.high ≤ 512) ∧ c.wide * c.high ≤ 65536 ∧ c.rows.length = c.high ∧ ∀ r ∈ c.rows, r.length = c.wide ∧ ∀ k ∈ r, k < 62 := by
  simp only [Chart.right, sizeOk, Bool.and_eq_true, decide_eq_true_eq, List.all_eq_true]
  exact Iff.rfl
theorem cut_row : ∀ (r : List UInt8) (rest : List UInt8) (p : Nat) (w : List UInt8), (∀ b ∈ r, b ≠ LF) → cut LF p w (r ++ LF :: rest) = (p, w ++ r) :: cut LF (p + (w ++ r).length + 1) [] rest
  | [], rest, p, w, _ => by
    show (if LF = LF then _ else _) = _
    rw [if_pos rfl, List.append_nil]
  | b :: r, rest, p, w, h => by
    show (if b = LF then _ else cut LF p (w ++ [b]) (r ++ LF :: rest)) = _
    rw [if_neg (h b (List.mem_cons_self ..)), cut_row r rest p (w ++ [b]) fun x hx => h x (List.mem_cons_of_mem _ hx), List.append_assoc]
    rfl
theorem cut_text : ∀ (rows : List (List Nat)) (p : Nat), (∀ r ∈ rows, ∀ k ∈ r, k < 62) → ∃ q, (cut LF p [] (rows.flatMap fun (r : List Nat) => r.map byteOf ++ [LF])).map (fun (x : Nat × List UInt8) => x.2.map colourOf) = rows.map (fun r => r.map some) ++ [q]
  | [], p, _ => ⟨[], rfl⟩
  | r :: rows, p, h => by
    have e : ((r :: rows).flatMap fun (r : List Nat) => r.map byteOf ++ [LF]) = r.map byteOf ++ LF :: (rows.flatMap fun (r : List Nat) => r.map byteOf ++ [LF]) := by simp
    obtain ⟨q, hq⟩ := cut_text rows (p + ([] ++ r.map byteOf).length + 1) fun x hx => h x (List.mem_cons_of_mem _ hx)
    refine ⟨q, ?_⟩
    rw [e, cut_row _ _ _ _ (by
      intro b hb
      obtain ⟨k, hk, rfl⟩ := List.mem_map.mp hb
      exact byte_lf k (h r (List.mem_cons_self ..) k hk)), List.map_cons, hq]
    have z : ([] ++ r.map byteOf).map colourOf = r.map some := by
      rw [List.nil_append, List.map_map]
      exact List.map_congr_left fun k hk => colour_byte k (h r (List.mem_cons_self ..) k hk)
    show ([] ++ r.map byteOf).map colourOf :: _ = _
    rw [z] <;> rfl
theorem unsome : ∀ r : List Nat, (r.map some).filterMap id = r
  | [] => rfl
  | k :: r => by
    show k :: (r.map some).filterMap id = k :: r
    rw [unsome r]
theorem chart_text {c : Chart} (h : c.right = true) : chartOf c.text = some c := by
  obtain ⟨h1, h2, h3, h4⟩ := right_iff.mp h
  obtain ⟨q, hq⟩ := cut_text c.rows 0 fun r hr => (h4 r hr).2
  have hl : ((cut LF 0 [] c.text).map fun (x : Nat × List UInt8) => x.2.map colourOf).dropLast = c.rows.map fun r => r.map some := by
    show ((cut LF 0 [] (c.rows.flatMap fun (r : List Nat) => r.map byteOf ++ [LF])).map fun (x : Nat × List UInt8) => x.2.map colourOf).dropLast = _
    rw [hq, List.dropLast_concat]
  have hr : (c.rows.map fun r => r.map some).map (fun (r : List (Option Nat)) => r.filterMap id) = c.rows := by
    rw [List.map_map]
    conv => rhs; rw [← List.map_id c.rows]
    exact List.map_congr_left fun r _ => unsome r
  have hw : ((c.rows.map fun r => r.map some).headD []).length = c.wide := by
    cases e : c.rows with
    | nil => rw [e] at h3; have h3' : 0 = c.high := h3; omega
    | cons r l =>
      show (r.map some).length = _
      rw [List.length_map]
      exact (h4 r (by rw [e]; exact List.mem_cons_self ..)).1
  unfold chartOf
  simp only [hl]
  rw [hw, hr, List.length_map, h3]
  exact if_pos ⟨h, rfl⟩
theorem text_flat (rows : List (List Nat)) : RugDNeutral.text (flat (encRows rows)) = rows.flatMap fun (r : List Nat) => r.map byteOf ++ [LF] := by
  induction rows with
  | nil => rfl
  | cons r l ih =>
    have e : flat (encRows (r :: l)) = r.map bi ++ 10 :: flat (encRows l) := by simp [flat, encRows]
    rw [e]
    have t : ∀ a b, RugDNeutral.text (a ++ b) = RugDNeutral.text a ++ RugDNeutral.text b := by
      intro a b
      simp [RugDNeutral.text, RugDNeutral.nats]
    rw [t]
    have t2 : RugDNeutral.text (10 :: flat (encRows l)) = LF :: RugDNeutral.text (flat (encRows l)) := rfl
    rw [t2, ih]
    have t3 : RugDNeutral.text (r.map bi) = r.map byteOf := by
      show (((r.map bi).map Int.toNat).map UInt8.ofNat) = _
      rw [List.map_map, List.map_map]
      refine List.map_congr_left fun k _ => ?_
      show UInt8.ofNat (((byteOf k).toNat : Int).toNat) = byteOf k
      rw [Int.toNat_natCast, UInt8.ofNat_toNat]
    rw [t3]
    simp
def bytesOk (ns : List Int) : Prop := ∀ b ∈ ns, 0 ≤ b ∧ b ≤ 255
theorem text_back {ns : List Int} (h : bytesOk ns) : (RugDNeutral.text ns).map (fun c => ((c.toNat : Nat) : Int)) = ns := by
  show (((ns.map Int.toNat).map UInt8.ofNat).map _) = _
  rw [List.map_map, List.map_map]
  conv => rhs; rw [← List.map_id ns]
  refine List.map_congr_left fun b hb => ?_
  show (((UInt8.ofNat b.toNat).toNat : Nat) : Int) = b
  have := h b hb
  rw [UInt8.toNat_ofNat']
  omega
theorem flat_bytes (rows : List (List Nat)) : (rows.flatMap fun (r : List Nat) => r.map byteOf ++ [LF]).map (fun c => ((c.toNat : Nat) : Int)) = flat (encRows rows) := by
  induction rows with
  | nil => rfl
  | cons r l ih =>
    have e : flat (encRows (r :: l)) = r.map bi ++ 10 :: flat (encRows l) := by simp [flat, encRows]
    rw [e, ← ih]
    simp [bi, LF]
theorem enc_col {c : Chart} (h : c.right = true) : ∀ r ∈ enc c, allCol r := by
  intro r hr b hb
  obtain ⟨s, hs, rfl⟩ := List.mem_map.mp hr
  obtain ⟨k, hk, rfl⟩ := List.mem_map.mp hb
  exact (bi_col k (((right_iff.mp h).2.2.2 s hs).2 k hk)).1
theorem enc_wide {c : Chart} (h : c.right = true) : wideOf (enc c) = c.wide := by
  obtain ⟨h1, h2, h3, h4⟩ := right_iff.mp h
  unfold wideOf enc encRows
  cases e : c.rows with
  | nil => rw [e] at h3; have h3' : 0 = c.high := h3; omega
  | cons r l =>
    show (r.map bi).length = _
    rw [List.length_map]
    exact (h4 r (by rw [e]; exact List.mem_cons_self ..)).1
theorem enc_high {c : Chart} (h : c.right = true) : (enc c).length = c.high := by
  rw [enc, encRows, List.length_map]
  exact (right_iff.mp h).2.2.1
theorem enc_chart {c : Chart} (h : c.right = true) : isChart (enc c) = true := by
  obtain ⟨h1, h2, h3, h4⟩ := right_iff.mp h
  have e1 := enc_wide h
  have e2 := enc_high h
  unfold isChart
  rw [e1, e2]
  simp only [sizeOkI, Bool.and_eq_true, decide_eq_true_eq, List.all_eq_true]
  refine ⟨⟨?_, ?_⟩, ⟨⟨⟨h1.1, h1.2.1⟩, h1.2.2⟩, h2⟩⟩
  · cases e : enc c with
    | nil => rw [e] at e2; have e2' : 0 = c.high := e2; omega
    | cons => rfl
  · intro r hr
    obtain ⟨s, hs, rfl⟩ := List.mem_map.mp hr
    rw [List.length_map]
    exact (h4 s hs).1
theorem parse_of_right {c : Chart} (h : c.right = true) : parse (flat (enc c)) = some (enc c) := by
  unfold parse
  rw [parse_flat _ _ (enc_col h)]
  exact if_pos ⟨rfl, by rw [List.nil_append]; exact enc_chart h⟩
theorem parse_some {ns : List Int} {rows : List (List Int)} (e : parse ns = some rows) : ∃ c : Chart, chartOf (RugDNeutral.text ns) = some c ∧ c.right = true ∧ rows = enc c := by
  unfold parse at e
  cases e1 : parseGo ns [] [] with
  | none => rw [e1] at e; cases e
  | some p =>
    obtain ⟨R, q⟩ := p
    rw [e1] at e
    have e' : (if q = [] ∧ isChart R = true then some R else none) = some rows := e
    by_cases hc : q = [] ∧ isChart R = true
    · rw [if_pos hc] at e'
      cases e'
      obtain ⟨hq, hch⟩ := hc
      subst hq
      obtain ⟨z1, _, z3⟩ := parse_inv ns [] [] rows [] e1 (by intro r hr; cases hr) (by intro r hr; cases hr)
      have z3' : flat rows = ns := by simpa [flat] using z3
      have back : encRows (rows.map fun r => r.map dec) = rows := by
        unfold encRows
        rw [List.map_map]
        conv => rhs; rw [← List.map_id rows]
        refine List.map_congr_left fun r hr => ?_
        show (r.map dec).map bi = r
        rw [List.map_map]
        conv => rhs; rw [← List.map_id r]
        exact List.map_congr_left fun b hb => (col_dec (z1 r hr b hb)).2
      have hch' := hch
      simp only [isChart, sizeOkI, Bool.and_eq_true, decide_eq_true_eq, List.all_eq_true] at hch'
      obtain ⟨⟨_, ha⟩, ⟨⟨hw1, hw2⟩, hh⟩, hk⟩ := hch'
      let c : Chart := ⟨wideOf rows, rows.length, rows.map fun r => r.map dec⟩
      have hr : c.right = true := by
        refine right_iff.mpr ⟨⟨hw1, hw2, hh⟩, hk, List.length_map _, ?_⟩
        intro r hr
        obtain ⟨s, hs, rfl⟩ := List.mem_map.mp hr
        refine ⟨by rw [List.length_map]; exact ha s hs, ?_⟩
        intro k hk
        obtain ⟨b, hb, rfl⟩ := List.mem_map.mp hk
        exact (col_dec (z1 s hs b hb)).1
      refine ⟨c, ?_, hr, back.symm⟩
      have ht : c.text = RugDNeutral.text ns := by
        rw [← z3', ← back]
        exact (text_flat _).symm
      rw [← ht]
      exact chart_text hr
    · rw [if_neg hc] at e'
      cases e'
theorem parse_none {ns : List Int} (hb : bytesOk ns) (e : parse ns = none) : chartOf (RugDNeutral.text ns) = none := by
  cases h : chartOf (RugDNeutral.text ns) with
  | none => rfl
  | some c =>
    have q : c.right = true ∧ c.text = RugDNeutral.text ns := by
      unfold chartOf at h
      simp only at h
      split at h
      · rename_i hh
        cases h
        exact hh
      · cases h
    have z : ns = flat (enc c) := by
      rw [← text_back hb, ← q.2]
      exact flat_bytes c.rows
    rw [z, parse_of_right q.1] at e
    cases e
end RM
namespace RM
open Wqbbch
/-! ### what a knot of the rug is -/
def told3 : From → Nat × Nat × Nat
  | .field i j => (0, i, j)
  | .strip i j => (1, i, j)
  | .corner i j => (2, i, j)
def seen (h W H x y : Nat) : Nat × Nat :=
  if x < W + h ∧ y < h then (x, y) else if W + h ≤ x ∧ y < H + h then (y, W + 2 * h - 1 - x) else if h ≤ x ∧ H + h ≤ y then (W + 2 * h - 1 - x, H + 2 * h - 1 - y) else (H + 2 * h - 1 - y, x)
def knot (k : Kind) (L h W H x y : Nat) : Nat × Nat × Nat :=
  if h ≤ x ∧ x < W + h ∧ h ≤ y ∧ y < H + h then (0, x - h, y - h) else match k with
    | .met => (1, max (min x (W + 2 * h - 1 - x)) (min y (H + 2 * h - 1 - y)) % L, min (min x (W + 2 * h - 1 - x)) (min y (H + 2 * h - 1 - y)))
    | .run => (1, (seen h W H x y).1 % L, (seen h W H x y).2)
    | .set => if (seen h W H x y).1 < h then (2, (seen h W H x y).1, (seen h W H x y).2) else (1, ((seen h W H x y).1 - h) % L, (seen h W H x y).2)
theorem s3 {a b c : Nat} {i j : Nat} (h1 : b = i) (h2 : c = j) : (a, b, c) = (a, i, j) := by rw [h1, h2]
theorem knot_is (k : Kind) (L h W H x y : Nat) (hx : x < W + 2 * h) (hy : y < H + 2 * h) (hW : 1 ≤ W) (hH : 1 ≤ H) (hh : 1 ≤ h) : told3 (fromOf k L h W H x y) = knot k L h W H x y := by
  unfold fromOf knot
  by_cases c : h ≤ x ∧ x < W + h ∧ h ≤ y ∧ y < H + h
  · rw [if_pos c]
    simp only
    rw [if_pos (by omega)]
    rfl
  · rw [if_neg c]
    simp only
    rw [if_neg (by omega)]
    cases k with
    | met => rfl
    | run =>
      simp only [seen]
      by_cases c1 : x < W + h ∧ y < h
      · rw [if_pos c1, if_pos c1]; rfl
      · rw [if_neg c1, if_neg c1]
        by_cases c2 : W + h ≤ x ∧ y < H + h
        · rw [if_pos c2, if_pos c2]; rfl
        · rw [if_neg c2, if_neg c2]
          by_cases c3 : h ≤ x ∧ H + h ≤ y
          · rw [if_pos c3, if_pos c3]; rfl
          · rw [if_neg c3, if_neg c3]; rfl
    | set =>
      simp only
      by_cases c1 : x < W + h ∧ y < h
      · have e : seen h W H x y = (x, y) := if_pos c1
        rw [e]
        simp only
        by_cases d : x < h
        · rw [if_pos (by omega), if_pos d]; rfl
        · rw [if_neg (by omega), if_neg (by omega), if_neg (by omega), if_neg (by omega), if_pos (by omega), if_neg d]; rfl
      · by_cases c2 : W + h ≤ x ∧ y < H + h
        · have e : seen h W H x y = (y, W + 2 * h - 1 - x) := (if_neg c1).trans (if_pos c2)
          rw [e]
          simp only
          by_cases d : y < h
          · rw [if_neg (by omega), if_pos (by omega), if_pos d]
            exact s3 rfl (by omega)
          · rw [if_neg (by omega), if_neg (by omega), if_neg (by omega), if_neg (by omega), if_neg d, if_pos (by omega), if_neg d]; rfl
        · by_cases c3 : h ≤ x ∧ H + h ≤ y
          · have e : seen h W H x y = (W + 2 * h - 1 - x, H + 2 * h - 1 - y) := (if_neg c1).trans ((if_neg c2).trans (if_pos c3))
            rw [e]
            simp only
            by_cases d : W + 2 * h - 1 - x < h
            · rw [if_neg (by omega), if_neg (by omega), if_pos (by omega), if_pos d]
              exact s3 (by omega) (by omega)
            · rw [if_neg (by omega), if_neg (by omega), if_neg (by omega), if_neg (by omega), if_neg (by omega), if_neg (by omega), if_pos (by omega), if_neg d]
              exact s3 (congrArg (· % L) (by omega)) rfl
          · have e : seen h W H x y = (H + 2 * h - 1 - y, x) := (if_neg c1).trans ((if_neg c2).trans (if_neg c3))
            rw [e]
            simp only
            by_cases d : H + 2 * h - 1 - y < h
            · rw [if_neg (by omega), if_neg (by omega), if_neg (by omega), if_pos (by omega), if_pos d]
              exact s3 (by omega) rfl
            · rw [if_neg (by omega), if_neg (by omega), if_neg (by omega), if_neg (by omega), if_neg (by omega), if_neg (by omega), if_neg (by omega), if_neg d]
              exact s3 (congrArg (· % L) (by omega)) rfl
/-- where a knot of the border lies in its chart -/
structure In3 (k : Kind) (L h W H : Nat) (p : Nat × Nat × Nat) : Prop where
  a : p.1 ≤ 2
  f : p.1 = 0 → p.2.1 < W ∧ p.2.2 < H
  s : p.1 = 1 → p.2.1 < L ∧ p.2.2 < h
  c : p.1 = 2 → k = .set ∧ p.2.1 < h ∧ p.2.2 < h
theorem seen_lt {h W H x y : Nat} (hx : x < W + 2 * h) (hy : y < H + 2 * h) (c : ¬ (h ≤ x ∧ x < W + h ∧ h ≤ y ∧ y < H + h)) : (seen h W H x y).2 < h := by
  unfold seen
  by_cases c1 : x < W + h ∧ y < h
  · rw [if_pos c1]; exact c1.2
  · rw [if_neg c1]
    by_cases c2 : W + h ≤ x ∧ y < H + h
    · rw [if_pos c2]; show W + 2 * h - 1 - x < h; omega
    · rw [if_neg c2]
      by_cases c3 : h ≤ x ∧ H + h ≤ y
      · rw [if_pos c3]; show H + 2 * h - 1 - y < h; omega
      · rw [if_neg c3]; show x < h; omega
theorem knot_in (k : Kind) {L h W H x y : Nat} (hx : x < W + 2 * h) (hy : y < H + 2 * h) (hL : 1 ≤ L) : In3 k L h W H (knot k L h W H x y) := by
  unfold knot
  by_cases c : h ≤ x ∧ x < W + h ∧ h ≤ y ∧ y < H + h
  · rw [if_pos c]
    exact ⟨by show 0 ≤ 2; omega, fun _ => ⟨by show x - h < W; omega, by show y - h < H; omega⟩, fun e => absurd (show (0 : Nat) = 1 from e) (by omega), fun e => absurd (show (0 : Nat) = 2 from e) (by omega)⟩
  · rw [if_neg c]
    have z := seen_lt hx hy c
    cases k with
    | met =>
      exact ⟨by show 1 ≤ 2; omega, fun e => absurd (show (1 : Nat) = 0 from e) (by omega), fun _ => ⟨Nat.mod_lt _ hL, by show min (min x (W + 2 * h - 1 - x)) (min y (H + 2 * h - 1 - y)) < h; omega⟩, fun e => absurd (show (1 : Nat) = 2 from e) (by omega)⟩
    | run =>
      exact ⟨by show 1 ≤ 2; omega, fun e => absurd (show (1 : Nat) = 0 from e) (by omega), fun _ => ⟨Nat.mod_lt _ hL, z⟩, fun e => absurd (show (1 : Nat) = 2 from e) (by omega)⟩
    | set =>
      simp only
      by_cases d : (seen h W H x y).1 < h
      · rw [if_pos d]
        exact ⟨by show 2 ≤ 2; omega, fun e => absurd (show (2 : Nat) = 0 from e) (by omega), fun e => absurd (show (2 : Nat) = 1 from e) (by omega), fun _ => ⟨rfl, d, z⟩⟩
      · rw [if_neg d]
        exact ⟨by show 1 ≤ 2; omega, fun e => absurd (show (1 : Nat) = 0 from e) (by omega), fun _ => ⟨Nat.mod_lt _ hL, z⟩, fun e => absurd (show (1 : Nat) = 2 from e) (by omega)⟩
/-! ### the rug -/
/-- an item of a chart's rows -/
def item (rows : List (List Int)) (x y : Nat) : Int := (rows.getD y []).getD x 0
theorem item_enc {c : Chart} (h : c.right = true) {x y : Nat} (hx : x < c.wide) (hy : y < c.high) : item (enc c) x y = bi (c.at_ x y) := by
  obtain ⟨h1, h2, h3, h4⟩ := right_iff.mp h
  have hy' : y < c.rows.length := by omega
  have hl : (c.rows[y]).length = c.wide := (h4 _ (List.getElem_mem hy')).1
  simp only [item, enc, encRows, Chart.at_, List.getD_eq_getElem?_getD, List.getElem?_map, List.getElem?_eq_getElem hy', Option.map_some, Option.getD_some]
  have hx' : x < (c.rows[y]).length := by omega
  simp only [List.getElem?_eq_getElem hx', Option.map_some, Option.getD_some]
/-- the knot's colour among the three sources -/
def srcOf (f s c : List (List Int)) (a : Nat) : List (List Int) := if a = 0 then f else if a = 1 then s else c
def pick (f s c : List (List Int)) (p : Nat × Nat × Nat) : Int := item (srcOf f s c p.1) p.2.1 p.2.2
def rugRow (k : Kind) (L h W H : Nat) (f s c : List (List Int)) (y : Nat) : List Int := (List.range (W + 2 * h)).map fun x => pick f s c (knot k L h W H x y)
def rug (k : Kind) (L h W H : Nat) (f s c : List (List Int)) : List (List Int) := (List.range (H + 2 * h)).map fun y => rugRow k L h W H f s c y
/-- the specification's rug is this one; cr: the corner's rows (no rows but for kind 0) -/
theorem rug_is {k : Kind} {t s c : Chart} {cr : List (List Int)} (ht : t.right = true) (hs : s.right = true) (hc : k = .set → c.right = true ∧ c.wide = s.high ∧ c.high = s.high ∧ cr = enc c) :
    enc (bordered k t s c) = rug k s.wide s.high t.wide t.high (enc t) (enc s) cr := by
  obtain ⟨t1, _⟩ := right_iff.mp ht
  obtain ⟨s1, _⟩ := right_iff.mp hs
  unfold enc encRows bordered Chart.by_ rug
  rw [List.map_map]
  refine List.map_congr_left fun y hy => ?_
  rw [List.mem_range] at hy
  show ((List.range (t.wide + 2 * s.high)).map _).map bi = rugRow _ _ _ _ _ _ _ _ y
  unfold rugRow
  rw [List.map_map]
  refine List.map_congr_left fun x hx => ?_
  rw [List.mem_range] at hx
  have e := knot_is k s.wide s.high t.wide t.high x y hx hy (by omega) (by omega) (by omega)
  have I := knot_in k (L := s.wide) hx hy (by omega)
  rw [← e] at I ⊢
  show bi (match fromOf k s.wide s.high t.wide t.high x y with
    | .field i j => t.at_ i j
    | .strip i j => s.at_ i j
    | .corner i j => c.at_ i j) = _
  cases q : fromOf k s.wide s.high t.wide t.high x y with
  | field i j =>
    rw [q] at I
    exact (item_enc ht (I.f rfl).1 (I.f rfl).2).symm
  | strip i j =>
    rw [q] at I
    exact (item_enc hs (I.s rfl).1 (I.s rfl).2).symm
  | corner i j =>
    rw [q] at I
    obtain ⟨hk, hi, hj⟩ := I.c rfl
    obtain ⟨c1, c2, c3, c4⟩ := hc hk
    subst c4
    exact (item_enc c1 (by show i < c.wide; rw [c2]; exact hi) (by show j < c.high; rw [c3]; exact hj)).symm
end RM
namespace RM
open Wqbbch
/-! ### the call round -/
def sideI (n : Nat) : Bool := decide (1 ≤ n) && decide (n ≤ 512)
def inB (kind : Int) (L h W H : Nat) : Bool := decide (kind ≤ 2) && (decide (1 ≤ h) && decide (h ≤ 128)) && (sideI L && (sideI W && sideI H))
def comesOut (kind : Int) (L h W H : Nat) : Bool := if kind = 0 then decide (W % L = 0) && decide (H % L = 0) else if kind = 1 then decide ((W + 2 * h) % (2 * L) = 0) && decide ((H + 2 * h) % (2 * L) = 0) else decide ((W + h) % L = 0) && decide ((H + h) % L = 0)
def rightCorner (kind : Int) (corner : List (List Int)) (h : Nat) : Bool := if kind ≠ 0 then corner.isEmpty else decide (corner.length = h) && decide (wideOf corner = h)
def refusal (kind : Int) (f s c : List (List Int)) : Int :=
  if ¬ (inB kind (wideOf s) s.length (wideOf f) f.length = true ∧ rightCorner kind c s.length = true) then -1 else if ¬ comesOut kind (wideOf s) s.length (wideOf f) f.length = true then -3
  else if ¬ sizeOkI (wideOf f + 2 * s.length) (f.length + 2 * s.length) = true then -8 else 0
def kk (kind : Int) : Kind := if kind = 0 then .set else if kind = 1 then .met else .run
def cparse (c : List Int) : Option (List (List Int)) := if c = [] then some [] else parse c
def roundM (kind : Int) (t s c : List Int) : List Int :=
  if 66048 < t.length ∨ 66048 < s.length ∨ 66048 < c.length then [-2] else match parse t, parse s, cparse c with
    | some f, some s, some c => if refusal kind f s c < 0 then [refusal kind f s c] else
      ((flat (rug (kk kind) (wideOf s) s.length (wideOf f) f.length f s c)).length : Int) :: flat (rug (kk kind) (wideOf s) s.length (wideOf f) f.length f s c)
    | _, _, _ => [-6]
theorem text_len (ns : List Int) : (RugDNeutral.text ns).length = ns.length := by simp [RugDNeutral.text, RugDNeutral.nats]
theorem shown_says (z : Int) : RugDNeutral.shown (says z) = [z] := rfl
theorem shown_whole (c : Chart) : RugDNeutral.shown (whole c) = ((flat (enc c)).length : Int) :: flat (enc c) := by
  have e := flat_bytes c.rows
  show ((c.text.length : Nat) : Int) :: ([] ++ c.text.map _) = _
  rw [List.nil_append]
  have e' : c.text.map (fun c => ((c.toNat : Nat) : Int)) = flat (enc c) := e
  rw [e', ← e', List.length_map]
theorem comes_fits {kind : Int} {L h W H : Nat} : fits (kk kind) L h W H = comesOut kind L h W H := by
  unfold kk comesOut
  by_cases c0 : kind = 0
  · rw [if_pos c0, if_pos c0]; rfl
  · rw [if_neg c0, if_neg c0]
    by_cases c1 : kind = 1
    · rw [if_pos c1, if_pos c1]; rfl
    · rw [if_neg c1, if_neg c1]; rfl
theorem size_ok {w h : Nat} : sizeOkI w h = true ↔ ¬ (sizeOk w h = false ∨ KNOTS < w * h) := by
  simp only [sizeOkI, sizeOk, Bool.and_eq_true, decide_eq_true_eq, ← Bool.not_eq_true]
  have a : SIDE = 512 := rfl
  have b : KNOTS = 65536 := rfl
  rw [a, b]
  omega
/-- the end of round, when the bounds are kept -/
theorem round_told {kind : Int} {t s c : Chart} {cr : List (List Int)} (ht : t.right = true) (hs : s.right = true) (hb : inB kind s.wide s.high t.wide t.high = true) (hr : rightCorner kind cr s.high = true)
    (hc : kk kind = .set → c.right = true ∧ c.wide = s.high ∧ c.high = s.high ∧ cr = enc c) :
    RugDNeutral.shown (roundTold (kk kind) t s c) = if refusal kind (enc t) (enc s) cr < 0 then [refusal kind (enc t) (enc s) cr] else
      ((flat (rug (kk kind) s.wide s.high t.wide t.high (enc t) (enc s) cr)).length : Int) :: flat (rug (kk kind) s.wide s.high t.wide t.high (enc t) (enc s) cr) := by
  unfold refusal roundTold
  rw [enc_wide ht, enc_high ht, enc_wide hs, enc_high hs, if_neg (not_not_intro ⟨hb, hr⟩), comes_fits]
  cases e : comesOut kind s.wide s.high t.wide t.high with
  | false => rfl
  | true =>
    show RugDNeutral.shown (if sizeOk (t.wide + 2 * s.high) (t.high + 2 * s.high) = false ∨ KNOTS < (t.wide + 2 * s.high) * (t.high + 2 * s.high) then LARGE else whole (bordered (kk kind) t s c)) = if (if ¬ sizeOkI (t.wide + 2 * s.high) (t.high + 2 * s.high) = true then -8 else 0) < 0 then [if ¬ sizeOkI (t.wide + 2 * s.high) (t.high + 2 * s.high) = true then -8 else 0] else _
    by_cases z : sizeOkI (t.wide + 2 * s.high) (t.high + 2 * s.high) = true
    · rw [if_neg (size_ok.mp z), if_neg (not_not_intro z), shown_whole, rug_is ht hs hc]
      rfl
    · rw [if_pos (Decidable.not_not.mp (fun q => z (size_ok.mpr q))), if_pos z]
      rfl
theorem refusal_bad {kind : Int} {f s c : List (List Int)} (h : ¬ (inB kind (wideOf s) s.length (wideOf f) f.length = true ∧ rightCorner kind c s.length = true)) : refusal kind f s c = -1 := if_pos h
theorem one_is {n : Nat} (h : 1 ≤ n ∧ n ≤ 512) : sideI n = true := by
  unfold sideI
  rw [decide_eq_true h.1, decide_eq_true h.2] <;> rfl
theorem round_is {kind : Int} {t s c : List Int} (hk : 0 ≤ kind) (bt : bytesOk t) (bs : bytesOk s) (bc : bytesOk c) : PyWqbbch.round_of kind t s c = roundM kind t s c := by
  show RugDNeutral.shown (answer (.round (RugDNeutral.text t) (RugDNeutral.text s) (RugDNeutral.text c) kind.toNat)) = _
  unfold roundM answer
  simp only [text_len]
  have eT : TEXT = 66048 := rfl
  rw [eT]
  by_cases c0 : 66048 < t.length ∨ 66048 < s.length ∨ 66048 < c.length
  · rw [if_pos c0, if_pos c0]; rfl
  · rw [if_neg c0, if_neg c0]
    unfold ofChart
    simp only [text_len, eT]
    rw [if_neg (show ¬ 66048 < t.length by omega)]
    cases e1 : parse t with
    | none => rw [parse_none bt e1]; rfl
    | some f =>
    obtain ⟨T, hT, rT, rfl⟩ := parse_some e1
    rw [hT]
    simp only
    rw [if_neg (show ¬ 66048 < s.length by omega)]
    cases e2 : parse s with
    | none => rw [parse_none bs e2]; rfl
    | some g =>
    obtain ⟨S, hS, rS, rfl⟩ := parse_some e2
    rw [hS]
    simp only
    obtain ⟨T1, _⟩ := right_iff.mp rT
    obtain ⟨S1, _⟩ := right_iff.mp rS
    have wT := enc_wide rT
    have hTt := enc_high rT
    have wS := enc_wide rS
    have hSs := enc_high rS
    have bnd : kind ≤ 2 → S.high ≤ 128 → inB kind S.wide S.high T.wide T.high = true := by
      intro a b
      unfold inB
      rw [decide_eq_true a, decide_eq_true S1.2.2.1, decide_eq_true b, one_is ⟨S1.1, S1.2.1⟩, one_is ⟨T1.1, T1.2.1⟩, one_is T1.2.2] <;> rfl
    have nbnd : ¬ (kind ≤ 2 ∧ S.high ≤ 128) → ¬ inB kind S.wide S.high T.wide T.high = true := by
      intro a b
      unfold inB at b
      simp only [Bool.and_eq_true, decide_eq_true_eq] at b
      exact a ⟨b.1.1, b.1.2.2⟩
    have bad : ∀ {cr : List (List Int)} {z : List Int}, ¬ (inB kind S.wide S.high T.wide T.high = true ∧ rightCorner kind cr S.high = true) → [(-1 : Int)] = if refusal kind (enc T) (enc S) cr < 0 then [refusal kind (enc T) (enc S) cr] else z := by
      intro cr z hz
      have q : refusal kind (enc T) (enc S) cr = -1 := refusal_bad (by rw [wT, hTt, wS, hSs]; exact hz)
      rw [q]; rfl
    have eD : DEEP = 128 := rfl
    by_cases c1 : c = []
    · subst c1
      have tn : RugDNeutral.text [] = [] := rfl
      rw [tn, if_pos rfl]
      show _ = if refusal kind (enc T) (enc S) [] < 0 then _ else _
      unfold kindAt
      by_cases k0 : kind = 0
      · subst k0
        exact bad (by
          intro hh
          have := hh.2
          unfold rightCorner at this
          rw [if_neg (by decide)] at this
          simp only [Bool.and_eq_true, decide_eq_true_eq] at this
          have z : (0 : Nat) = S.high := this.1
          omega)
      · by_cases k1 : kind = 1
        · subst k1
          show RugDNeutral.shown (if DEEP < S.high then BAD else roundTold .met T S S) = _
          by_cases d : DEEP < S.high
          · rw [if_pos d]
            exact bad fun hh => nbnd (by omega) hh.1
          · rw [if_neg d]
            have z := round_told (kind := 1) (c := S) (cr := []) rT rS (bnd (by omega) (by omega)) rfl (fun h => by cases h)
            rw [wS, wT, hTt, hSs]
            exact z
        · by_cases k2 : kind = 2
          · subst k2
            show RugDNeutral.shown (if DEEP < S.high then BAD else roundTold .run T S S) = _
            by_cases d : DEEP < S.high
            · rw [if_pos d]
              exact bad fun hh => nbnd (by omega) hh.1
            · rw [if_neg d]
              have z := round_told (kind := 2) (c := S) (cr := []) rT rS (bnd (by omega) (by omega)) rfl (fun h => by cases h)
              rw [wS, wT, hTt, hSs]
              exact z
          · have e : kind.toNat = kind.toNat - 3 + 3 := by omega
            rw [e]
            exact bad fun hh => nbnd (by omega) hh.1
    · have tn : RugDNeutral.text c ≠ [] := by
        intro q
        have q2 := text_len c
        rw [q] at q2
        cases c with
        | nil => exact c1 rfl
        | cons a r => cases q2
      rw [if_neg tn, if_neg (show ¬ 66048 < c.length by omega)]
      have ec : cparse c = parse c := if_neg c1
      rw [ec]
      cases e3 : parse c with
      | none => rw [parse_none bc e3]; rfl
      | some g =>
      obtain ⟨C, hC, rC, rfl⟩ := parse_some e3
      rw [hC]
      simp only
      obtain ⟨C1, _⟩ := right_iff.mp rC
      have wC := enc_wide rC
      have hCc := enc_high rC
      have ne : (enc C).isEmpty = false := by
        cases e : enc C with
        | nil => rw [e] at hCc; have z : 0 = C.high := hCc; omega
        | cons => rfl
      unfold kindAt
      by_cases k0 : kind = 0
      · subst k0
        show RugDNeutral.shown (if DEEP < S.high ∨ C.wide ≠ S.high ∨ C.high ≠ S.high then BAD else roundTold .set T S C) = _
        by_cases d : DEEP < S.high ∨ C.wide ≠ S.high ∨ C.high ≠ S.high
        · rw [if_pos d]
          exact bad fun hh => by
            have r := hh.2
            unfold rightCorner at r
            rw [if_neg (by decide), wC, hCc] at r
            simp only [Bool.and_eq_true, decide_eq_true_eq] at r
            rcases d with d | d | d
            · exact nbnd (by omega) hh.1
            · exact d r.2
            · exact d r.1
        · rw [if_neg d]
          have d' : S.high ≤ 128 ∧ C.wide = S.high ∧ C.high = S.high := by omega
          have z := round_told (kind := 0) (c := C) (cr := enc C) rT rS (bnd (by omega) d'.1) (by
            unfold rightCorner
            rw [if_neg (by decide), wC, hCc, decide_eq_true d'.2.1, decide_eq_true d'.2.2] <;> rfl) (fun _ => ⟨rC, d'.2.1, d'.2.2, rfl⟩)
          rw [wS, wT, hTt, hSs]
          exact z
      · have nr : rightCorner kind (enc C) S.high = false := by
          unfold rightCorner
          rw [if_pos k0, ne]
        have hbad := bad (cr := enc C) (z := ((flat (rug (kk kind) (wideOf (enc S)) (enc S).length (wideOf (enc T)) (enc T).length (enc T) (enc S) (enc C))).length : Int) :: flat (rug (kk kind) (wideOf (enc S)) (enc S).length (wideOf (enc T)) (enc T).length (enc T) (enc S) (enc C))) (fun hh => by rw [nr] at hh; cases hh.2)
        refine Eq.trans ?_ hbad
        by_cases k1 : kind = 1
        · subst k1; rfl
        · by_cases k2 : kind = 2
          · subst k2; rfl
          · have e : kind.toNat = kind.toNat - 3 + 3 := by omega
            rw [e]; rfl
end RM
/-! ### the text by places -/
namespace RH
open PySem PySem.Spec PyProof.Rows L2
open PySem.W (Codec WData)
open RM
def top (i : Nat) : Stmt := PySem.Challenge.pw_rugborders_s01_fits.main.body.getD i (.Pass ⟨0, 0, 0, 0⟩)
abbrev sSide : Stmt := top 2
abbrev sDep : Stmt := top 9
abbrev sBord : Stmt := top 10
abbrev sInB : Stmt := top 11
abbrev sAlong : Stmt := top 13
abbrev sOut : Stmt := top 12
abbrev sFits : Stmt := top 8
/-! ### charts in the heap -/
inductive RowsAt (H : Hp) : List Addr → List (List Int) → Prop
  | nil : RowsAt H [] []
  | cons {a : Addr} {r : List Int} {as : List Addr} {rs : List (List Int)} : H a = some (.lst (r.map V.int)) → RowsAt H as rs → RowsAt H (a :: as) (r :: rs)
theorem RowsAt.len {H : Hp} : ∀ {as : List Addr} {rs : List (List Int)}, RowsAt H as rs → as.length = rs.length
  | _, _, .nil => rfl
  | _, _, .cons _ h => congrArg (· + 1) h.len
theorem RowsAt.same {H H' : Hp} (s : Same H H') : ∀ {as : List Addr} {rs : List (List Int)}, RowsAt H as rs → RowsAt H' as rs
  | _, _, .nil => .nil
  | _, _, .cons e h => .cons (s _ _ e) (h.same s)
theorem RowsAt.push {H : Hp} {a : Addr} {r : List Int} (e : H a = some (.lst (r.map V.int))) : ∀ {as : List Addr} {rs : List (List Int)}, RowsAt H as rs → RowsAt H (as ++ [a]) (rs ++ [r])
  | _, _, .nil => .cons e .nil
  | _, _, .cons e' h => .cons e' (h.push e)
theorem RowsAt.upd {H : Hp} {p : Addr} {o : HO} : ∀ {as : List Addr} {rs : List (List Int)}, RowsAt H as rs → p ∉ as → RowsAt (upd H p o) as rs
  | _, _, .nil, _ => .nil
  | _, _, .cons e h, n => .cons (by rw [upd_ne (fun z => n (by rw [z]; exact List.mem_cons_self ..))]; exact e) (h.upd fun z => n (List.mem_cons_of_mem _ z))
theorem RowsAt.get {H : Hp} : ∀ {as : List Addr} {rs : List (List Int)} {i : Nat} {a : Addr}, RowsAt H as rs → as[i]? = some a → ∃ r, rs[i]? = some r ∧ H a = some (.lst (r.map V.int))
  | _, _, i, a, .nil, h => by simp at h
  | _, _, 0, a, .cons e _, h => by
    have z := Option.some.inj h
    subst z
    exact ⟨_, rfl, e⟩
  | _, _, i + 1, a, .cons _ h', h => RowsAt.get (i := i) h' h
theorem RowsAt.mem {H : Hp} : ∀ {as : List Addr} {rs : List (List Int)} {a : Addr}, RowsAt H as rs → a ∈ as → ∃ o, H a = some o
  | _, _, a, .nil, h => by cases h
  | _, _, a, .cons e h', h => by
    rcases List.mem_cons.mp h with z | z
    · subst z
      exact ⟨_, e⟩
    · exact h'.mem z
def ChartAt (H : Hp) (a : Addr) (rs : List (List Int)) : Prop := ∃ as : List Addr, H a = some (.lst (as.map V.ref)) ∧ RowsAt H as rs
theorem ChartAt.same {H H' : Hp} (s : Same H H') {a : Addr} {rs : List (List Int)} (h : ChartAt H a rs) : ChartAt H' a rs := by
  obtain ⟨as, e, r⟩ := h
  exact ⟨as, s _ _ e, r.same s⟩
theorem same_new {H : Hp} {p : Addr} (h : H p = none) (o : HO) : Same H (upd H p o) := fun b u q => by rw [upd_ne (ne_of_none q h)]; exact q
/-- what was tracked at first stands, though an object made since is changed -/
theorem same_put {H H' : Hp} {p : Addr} (s : Same H H') (h : H p = none) (o : HO) : Same H (upd H' p o) := fun b u q => by rw [upd_ne (ne_of_none q h)]; exact s b u q
theorem map_at {α : Type} {f : α → V} {l : List α} {i : Nat} {y : V} (hi : (l.map f)[i]? = some y) : ∃ z, l[i]? = some z ∧ y = f z := by
  rw [List.getElem?_map] at hi
  cases e : l[i]? with
  | none => rw [e] at hi; cases hi
  | some z => rw [e] at hi; exact ⟨z, rfl, (Option.some.inj hi).symm⟩
theorem drop_at {α : Type} {l : List α} {i : Nat} {z : α} (h : l[i]? = some z) : l.drop i = z :: l.drop (i + 1) := by
  obtain ⟨hi, e⟩ := List.getElem?_eq_some_iff.mp h
  rw [← e]
  exact List.drop_eq_getElem_cons hi
/-! ### numbers -/
def sideZ (n : Int) : Bool := decide (1 ≤ n) && decide (n ≤ 512)
def sizeZ (w h : Int) : Bool := sideZ w && (sideZ h && decide (w * h ≤ 65536))
def inZ (kind L h W Hh : Int) : Bool := (decide (kind ≤ 2) && (decide (1 ≤ h) && decide (h ≤ 128))) && (sideZ L && (sideZ W && sideZ Hh))
def outZ (kind L h W Hh : Int) : Bool := if kind = 0 then decide (W % L = 0) && decide (Hh % L = 0) else if kind = 1 then decide ((W + 2 * h) % (2 * L) = 0) && decide ((Hh + 2 * h) % (2 * L) = 0) else decide ((W + h) % L = 0) && decide ((Hh + h) % L = 0)
theorem side_nat (n : Nat) : sideZ (n : Int) = sideI n := by
  rw [Bool.eq_iff_iff]
  simp only [sideZ, sideI, Bool.and_eq_true, decide_eq_true_eq]
  omega
theorem size_nat (w h : Nat) : sizeZ (w : Int) (h : Int) = sizeOkI w h := by
  have e : ((w : Int) * (h : Int) ≤ 65536) ↔ w * h ≤ 65536 := by
    rw [← Int.natCast_mul]
    omega
  rw [Bool.eq_iff_iff]
  simp only [sizeZ, sizeOkI, sideZ, Bool.and_eq_true, decide_eq_true_eq, e]
  omega
theorem in_nat (kind : Int) (L h W Hh : Nat) : inZ kind L h W Hh = inB kind L h W Hh := by
  rw [Bool.eq_iff_iff]
  simp only [inZ, inB, sideZ, sideI, Bool.and_eq_true, decide_eq_true_eq]
  omega
theorem mod_nat (a b : Nat) : decide (((a : Nat) : Int) % ((b : Nat) : Int) = 0) = decide (a % b = 0) := by
  rw [← Int.natCast_emod]
  rw [Bool.eq_iff_iff]
  simp only [decide_eq_true_eq]
  omega
theorem out_nat (kind : Int) (L h W Hh : Nat) : outZ kind L h W Hh = comesOut kind L h W Hh := by
  unfold outZ comesOut
  have e1 : ((W : Int) + 2 * (h : Int)) = ((W + 2 * h : Nat) : Int) := by omega
  have e2 : ((Hh : Int) + 2 * (h : Int)) = ((Hh + 2 * h : Nat) : Int) := by omega
  have e3 : (2 * (L : Int)) = ((2 * L : Nat) : Int) := by omega
  have e4 : ((W : Int) + (h : Int)) = ((W + h : Nat) : Int) := by omega
  have e5 : ((Hh : Int) + (h : Int)) = ((Hh + h : Nat) : Int) := by omega
  rw [e1, e2, e3, e4, e5]
  simp only [mod_nat]
theorem pe_gi {X : Cx} {x : Str} {i : Int} {t : Tok} {pos : Pos} (hg : Gl X x) (hm : X.mg x = some (.int i t)) (hd : (x == ("__debug__" : Str)) = false := by decide) : PE X (.Name x pos) (tC (.int i)) := pe_glob (v := .int i) hg hm ⟨t, rfl⟩ hd
theorem dvi (a b : Int) : decide (V.int a = V.int b) = decide (a = b) := by
  rw [Bool.eq_iff_iff]
  simp only [decide_eq_true_eq]
  exact ⟨fun h => V.int.inj h, fun h => congrArg V.int h⟩
theorem bl_of {Q : VK} {H : Hp} {c d : Bool} (q : Q (.bl c) H) (e : c = d) : Q (.bl d) H := e ▸ q
theorem at_zero {α : Type} (x : α) (l : List α) : atI (x :: l) 0 = some x := atI_nat (j := 0) rfl
theorem line_small {n : Nat} (h : n ≤ 1000000) : n < sizeLine := Nat.lt_of_le_of_lt h (by rw [sizeLine_eq]; decide)
theorem take_more {α : Type} {l : List α} {i : Nat} {x : α} (h : l[i]? = some x) : l.take (i + 1) = l.take i ++ [x] := by
  rw [List.take_add_one, h]
  rfl
theorem PE.weak {X : Cx} {e : Expr} {t t' : TE} (h : PE X e t) (w : ∀ σ H Q, t' σ H Q → t σ H Q) : PE X e t' := ⟨fun pins s σ H Q I hw => h.run pins s σ H Q I (w σ H Q hw)⟩
theorem se_name (x : Str) (p : Pos) (es : List Expr) (env : Env) : starEach (.Name x p :: es) env = (false, eval (.Name x p) env) :: starEach es env := rfl
theorem pn {X : Cx} (i : Nat) {x : Str} {p : Pos} {es : List Expr} {t : TA} (hr : PA X es t) (hN : X.N[i]? = some x := by rfl) (hv : Vis X.env.scope x := by first | exact Or.inl rfl | exact Or.inr (Or.inl rfl) | exact Or.inr (Or.inr rfl)) (hd : (x == ("__debug__" : Str)) = false := by decide)
    (hcd : (x == ("__classdict__" : Str)) = false := by decide) : PA X (.Name x p :: es) (tCons (tVar i) t) := pa_cons (pe_var hN hv hd hcd) hr (se_name _ _ _ _)
structure Defs (K : PySem.W.Frag) (P : Program) (w : World) (mg : Str → Option Value) (base : Heap) (k : Nat) (x : Str) (ps : List Str) (sp : Sp) (f : Addr) (fd : FuncData) : Prop where
  G : FnOk P w K mg base CX0 k f fd ps sp
  b : Binds K fd ps []
  kp : PySem.W.keepIn K (.ref f) = true
  m : mg x = some (.ref f)
theorem PT.weak {X : Cx} {e : Expr} {t t' : TT} (h : PT X e t) (w : ∀ σ H Q, t' σ H Q → t σ H Q) : PT X e t' := ⟨fun pins s σ H Q I hw => h.run pins s σ H Q I (w σ H Q hw)⟩
theorem at_one {α : Type} (x y : α) (l : List α) : atI (x :: y :: l) 1 = some y := atI_nat (j := 1) rfl
theorem at_two {α : Type} (x y z : α) (l : List α) : atI (x :: y :: z :: l) 2 = some z := atI_nat (j := 2) rfl
section
variable {P : Program} {w : World} {K : PySem.W.Frag} {mg : Str → Option Value} {base : Heap} {f : Addr} {fd : FuncData}
def spSide : Sp := fun vs H Q _ => ∃ n : Int, vs = [.int n] ∧ Q (.bl (sideZ n)) H
theorem scSide : FnScope ["number"] ["number"] (defScope sSide) := ⟨rfl, rfl, rfl, by decide +kernel, rfl, by decide +kernel, by decide +kernel⟩
theorem ok_side {t : Tok} (F : Fun K "is_side" "is_side" sSide f fd) (mS : mg "MOST_SIDE" = some (.int 512 t)) : FnOk P w K mg base CX0 1 f fd ["number"] spSide := by
  refine F.ok scSide (fun vs H Q E h => ?_) (fun cdv A outer s H vs Q E hr h => ?_)
  · obtain ⟨b, rfl, _⟩ := h
    rfl
  obtain ⟨b, rfl, q⟩ := h
  refine ⟨_, pss_one (ps_ret (pe_chain op_le op_le pe_int (pv 0) (pe_gi rfl mS))), ?_⟩
  unfold sideZ at q
  refine ⟨_, rfl, _, _, rfl, rfl, _, rfl, ite2 (fun c => ?_) (fun c => ?_)⟩
  · rw [c] at q
    exact ⟨_, _, rfl, rfl, q⟩
  · rw [Bool.eq_false_iff.mpr c] at q
    exact q
/-! ### is_depth -/
def depthZ (n : Int) : Bool := decide (1 ≤ n) && decide (n ≤ 128)
def spDep : Sp := fun vs H Q _ => ∃ n : Int, vs = [.int n] ∧ Q (.bl (depthZ n)) H
theorem scDep : FnScope ["h"] ["h"] (defScope sDep) := ⟨rfl, rfl, rfl, by decide +kernel, rfl, by decide +kernel, by decide +kernel⟩
theorem ok_dep {t : Tok} (F : Fun K "is_depth" "is_depth" sDep f fd) (mS : mg "MOST_DEPTH" = some (.int 128 t)) : FnOk P w K mg base CX0 1 f fd ["h"] spDep := by
  refine F.ok scDep (fun vs H Q E h => ?_) (fun cdv A outer s H vs Q E hr h => ?_)
  · obtain ⟨b, rfl, _⟩ := h
    rfl
  obtain ⟨b, rfl, q⟩ := h
  refine ⟨_, pss_one (ps_ret (pe_chain op_le op_le pe_int (pv 0) (pe_gi rfl mS))), ?_⟩
  unfold depthZ at q
  refine ⟨_, rfl, _, _, rfl, rfl, _, rfl, ite2 (fun c => ?_) (fun c => ?_)⟩
  · rw [c] at q
    exact ⟨_, _, rfl, rfl, q⟩
  · rw [Bool.eq_false_iff.mpr c] at q
    exact q
/-! ### is_border -/
def bordZ (kind L h : Int) : Bool := decide (kind ≤ 2) && (sideZ L && depthZ h)
def spBord : Sp := fun vs H Q _ => ∃ kind L h : Int, vs = [.int kind, .int L, .int h] ∧ Q (.bl (bordZ kind L h)) H
theorem scBord : FnScope ["kind", "L", "h"] ["kind", "L", "h"] (defScope sBord) := ⟨rfl, rfl, rfl, by decide +kernel, rfl, by decide +kernel, by decide +kernel⟩
theorem ok_bord {t : Tok} {fS fD : Addr} {dS dD : FuncData} (F : Fun K "is_border" "is_border" sBord f fd) (mR : mg "RUN" = some (.int 2 t)) (S : Defs K P w mg base 1 "is_side" ["number"] spSide fS dS) (D : Defs K P w mg base 1 "is_depth" ["h"] spDep fD dD) :
    FnOk P w K mg base CX0 2 f fd ["kind", "L", "h"] spBord := by
  refine F.ok scBord (fun vs H Q E h => ?_) (fun cdv A outer s H vs Q E hr h => ?_)
  · obtain ⟨a, b, c, rfl, _⟩ := h
    rfl
  obtain ⟨kind, L, h, rfl, q⟩ := h
  refine ⟨_, pss_one (ps_ret (pe_and (pe_cmpR op_le (pv 0) (pe_gi rfl mR) (nomark _)) (pe_and (pe_call S.G hr rfl S.m S.kp S.b .nil pass0 (pn 1 pa_nil)) (pe_one (pe_call D.G hr rfl D.m D.kp D.b .nil pass0 (pn 2 pa_nil)))))), ?_⟩
  unfold bordZ at q
  refine ⟨_, rfl, _, _, rfl, rfl, _, rfl, ite2 (fun c => ?_) (fun c => ?_)⟩
  · rw [c] at q
    refine ⟨_, rfl, L, rfl, _, rfl, ite2 (fun d => ?_) (fun d => ?_)⟩
    · rw [d] at q
      exact ⟨_, rfl, h, rfl, q⟩
    · rw [Bool.eq_false_iff.mpr d] at q
      exact q
  · rw [Bool.eq_false_iff.mpr c] at q
    exact q
/-! ### in_bounds -/
theorem in_bord (kind L h W Hh : Int) : inZ kind L h W Hh = (bordZ kind L h && (sideZ W && sideZ Hh)) := by
  unfold inZ bordZ depthZ
  cases decide (kind ≤ 2) <;> cases sideZ L <;> simp
def spInB : Sp := fun vs H Q _ => ∃ kind L h W Hh : Int, vs = [.int kind, .int L, .int h, .int W, .int Hh] ∧ Q (.bl (inZ kind L h W Hh)) H
theorem scInB : FnScope ["kind", "L", "h", "W", "H"] ["kind", "L", "h", "W", "H"] (defScope sInB) := ⟨rfl, rfl, rfl, by decide +kernel, rfl, by decide +kernel, by decide +kernel⟩
theorem ok_inB {fS fB : Addr} {dS dB : FuncData} (F : Fun K "in_bounds" "in_bounds" sInB f fd) (B : Defs K P w mg base 2 "is_border" ["kind", "L", "h"] spBord fB dB) (S : Defs K P w mg base 1 "is_side" ["number"] spSide fS dS) :
    FnOk P w K mg base CX0 3 f fd ["kind", "L", "h", "W", "H"] spInB := by
  refine F.ok scInB (fun vs H Q E h => ?_) (fun cdv A outer s H vs Q E hr h => ?_)
  · obtain ⟨a, b, c, d, e, rfl, _⟩ := h
    rfl
  obtain ⟨kind, L, h, W, Hh, rfl, q⟩ := h
  have hr1 : Room 1 _ := hr.mono (by decide)
  refine ⟨_, pss_one (ps_ret (pe_and (pe_call B.G hr rfl B.m B.kp B.b .nil pass0 (pn 0 (pn 1 (pn 2 pa_nil)))) (pe_and (pe_call S.G hr1 rfl S.m S.kp S.b .nil pass0 (pn 3 pa_nil)) (pe_one (pe_call S.G hr1 rfl S.m S.kp S.b .nil pass0 (pn 4 pa_nil)))))), ?_⟩
  rw [in_bord] at q
  refine ⟨_, rfl, _, rfl, _, rfl, kind, L, h, rfl, _, rfl, ite2 (fun c => ?_) (fun c => ?_)⟩
  · rw [c] at q
    refine ⟨_, rfl, W, rfl, _, rfl, ite2 (fun d => ?_) (fun d => ?_)⟩
    · rw [d] at q
      exact ⟨_, rfl, Hh, rfl, q⟩
    · rw [Bool.eq_false_iff.mpr d] at q
      exact q
  · rw [Bool.eq_false_iff.mpr c] at q
    exact q
/-! ### comes_out_along -/
def alongZ (kind L h side : Int) : Bool := if kind = 0 then decide (side % L = 0) else if kind = 1 then decide ((side + 2 * h) % (2 * L) = 0) else decide ((side + h) % L = 0)
def spAlong : Sp := fun vs H Q _ => ∃ kind L h side : Int, vs = [.int kind, .int L, .int h, .int side] ∧ 0 < L ∧ Q (.bl (alongZ kind L h side)) H
theorem scAlong : FnScope ["kind", "L", "h", "side"] ["kind", "L", "h", "side"] (defScope sAlong) := ⟨rfl, rfl, rfl, by decide +kernel, rfl, by decide +kernel, by decide +kernel⟩
theorem ok_along {t t2 : Tok} (F : Fun K "comes_out_along" "comes_out_along" sAlong f fd) (m0 : mg "SET" = some (.int 0 t)) (m1 : mg "MET" = some (.int 1 t2)) : FnOk P w K mg base CX0 1 f fd ["kind", "L", "h", "side"] spAlong := by
  refine F.ok scAlong (fun vs H Q E h => ?_) (fun cdv A outer s H vs Q E hr h => ?_)
  · obtain ⟨a, b, c, d, rfl, _⟩ := h
    rfl
  obtain ⟨kind, L, h, side, rfl, hL, q⟩ := h
  refine ⟨_, pss_cons (ps_if (pt_cmpR op_eq (pv 0) (pe_gi rfl m0) (nomark _)) (pss_one (ps_ret (pe_cmpR op_eq (pe_op op_mod (pv 3) (pv 1)) pe_int (nomark _)))) pss_nil)
    (pss_cons (ps_if (pt_cmpR op_eq (pv 0) (pe_gi rfl m1) (nomark _)) (pss_one (ps_ret (pe_cmpR op_eq (pe_op op_mod (pe_op op_add (pv 3) (pe_op op_mul pe_int (pv 2))) (pe_op op_mul pe_int (pv 1))) pe_int (nomark _)))) pss_nil)
    (pss_one (ps_ret (pe_cmpR op_eq (pe_op op_mod (pe_op op_add (pv 3) (pv 2)) (pv 1)) pe_int (nomark _))))), ?_⟩
  unfold alongZ at q
  refine ⟨_, rfl, rfl, _, rfl, ite2 (fun c => ?_) (fun c => ?_)⟩
  · have c : kind = 0 := V.int.inj (of_decide_eq_true c)
    rw [if_pos c] at q
    exact ⟨_, rfl, _, rfl, _, _, rfl, rfl, hL, rfl, bl_of q (dvi _ _).symm⟩
  have c : ¬ kind = 0 := fun z => c (decide_eq_true (congrArg V.int z))
  rw [if_neg c] at q
  refine ⟨_, rfl, rfl, _, rfl, ite2 (fun c1 => ?_) (fun c1 => ?_)⟩
  · have c1 : kind = 1 := V.int.inj (of_decide_eq_true c1)
    rw [if_pos c1] at q
    exact ⟨_, rfl, _, rfl, _, _, rfl, rfl, .inl ⟨by decide, by decide⟩, _, _, rfl, rfl, _, rfl, _, _, rfl, rfl, .inl ⟨by decide, by decide⟩, _, _, rfl, rfl, (by show (0 : Int) < 2 * L; omega), rfl, bl_of q (dvi _ _).symm⟩
  have c1 : ¬ kind = 1 := fun z => c1 (decide_eq_true (congrArg V.int z))
  rw [if_neg c1] at q
  exact ⟨_, rfl, _, rfl, _, _, rfl, rfl, _, rfl, _, _, rfl, rfl, hL, rfl, bl_of q (dvi _ _).symm⟩
/-! ### comes_out -/
theorem out_along (kind L h W Hh : Int) : outZ kind L h W Hh = (alongZ kind L h W && alongZ kind L h Hh) := by
  unfold outZ alongZ
  by_cases c0 : kind = 0
  · rw [if_pos c0, if_pos c0, if_pos c0]
  · rw [if_neg c0, if_neg c0, if_neg c0]
    by_cases c1 : kind = 1
    · rw [if_pos c1, if_pos c1, if_pos c1]
    · rw [if_neg c1, if_neg c1, if_neg c1]
def spOut : Sp := fun vs H Q _ => ∃ kind L h W Hh : Int, vs = [.int kind, .int L, .int h, .int W, .int Hh] ∧ 0 < L ∧ Q (.bl (outZ kind L h W Hh)) H
theorem scOut : FnScope ["kind", "L", "h", "W", "H"] ["kind", "L", "h", "W", "H"] (defScope sOut) := ⟨rfl, rfl, rfl, by decide +kernel, rfl, by decide +kernel, by decide +kernel⟩
theorem ok_out {fA : Addr} {dA : FuncData} (F : Fun K "comes_out" "comes_out" sOut f fd) (A : Defs K P w mg base 1 "comes_out_along" ["kind", "L", "h", "side"] spAlong fA dA) : FnOk P w K mg base CX0 2 f fd ["kind", "L", "h", "W", "H"] spOut := by
  refine F.ok scOut (fun vs H Q E h => ?_) (fun cdv Ar outer s H vs Q E hr h => ?_)
  · obtain ⟨a, b, c, d, e, rfl, _⟩ := h
    rfl
  obtain ⟨kind, L, h, W, Hh, rfl, hL, q⟩ := h
  refine ⟨_, pss_one (ps_ret (pe_and (pe_call A.G hr rfl A.m A.kp A.b .nil pass0 (pn 0 (pn 1 (pn 2 (pn 3 pa_nil))))) (pe_one (pe_call A.G hr rfl A.m A.kp A.b .nil pass0 (pn 0 (pn 1 (pn 2 (pn 4 pa_nil)))))))), ?_⟩
  rw [out_along] at q
  refine ⟨_, rfl, _, rfl, _, rfl, _, rfl, kind, L, h, W, rfl, hL, _, rfl, ite2 (fun c => ?_) (fun c => ?_)⟩
  · rw [c] at q
    exact ⟨_, rfl, _, rfl, _, rfl, _, rfl, kind, L, h, Hh, rfl, hL, q⟩
  · rw [Bool.eq_false_iff.mpr c] at q
    exact q
/-! ### fits -/
def spFits : Sp := fun vs H Q _ => ∃ kind L h W Hh : Int, vs = [.int kind, .int L, .int h, .int W, .int Hh] ∧ 0 ≤ kind ∧ 0 ≤ L ∧ 0 ≤ h ∧ 0 ≤ W ∧ 0 ≤ Hh ∧ ∀ p H', H' p = some (.lst ((PyWqbbch.fits kind L h W Hh).map V.int)) → Q (.ref p) H'
theorem in_bounds_is {kind L h W Hh : Int} (k0 : 0 ≤ kind) (l0 : 0 ≤ L) (h0 : 0 ≤ h) (w0 : 0 ≤ W) (h1 : 0 ≤ Hh) : PyWqbbch.fits kind L h W Hh = if inZ kind L h W Hh = true then (if outZ kind L h W Hh = true then [1] else [0]) else [-1] := by
  obtain ⟨L, rfl⟩ : ∃ n : Nat, L = n := ⟨L.toNat, by omega⟩
  obtain ⟨h, rfl⟩ : ∃ n : Nat, h = n := ⟨h.toNat, by omega⟩
  obtain ⟨W, rfl⟩ : ∃ n : Nat, W = n := ⟨W.toNat, by omega⟩
  obtain ⟨Hh, rfl⟩ : ∃ n : Nat, Hh = n := ⟨Hh.toNat, by omega⟩
  rw [in_nat, out_nat, ← comes_fits]
  show RugDNeutral.shown (Wqbbch.answer (.fits kind.toNat L h W Hh)) = _
  have body : ∀ k : Wqbbch.Kind, (if Wqbbch.one L = true ∧ Wqbbch.deepOk h = true ∧ Wqbbch.one W = true ∧ Wqbbch.one Hh = true then Wqbbch.says (if Wqbbch.fits k L h W Hh = true then 1 else 0) else Wqbbch.BAD) =
      if (decide (1 ≤ h) && decide (h ≤ 128) && (sideI L && (sideI W && sideI Hh))) = true then Wqbbch.says (if Wqbbch.fits k L h W Hh = true then 1 else 0) else Wqbbch.BAD := fun k => by
    have e : (Wqbbch.one L = true ∧ Wqbbch.deepOk h = true ∧ Wqbbch.one W = true ∧ Wqbbch.one Hh = true) ↔ (decide (1 ≤ h) && decide (h ≤ 128) && (sideI L && (sideI W && sideI Hh))) = true := by
      simp only [Wqbbch.one, Wqbbch.deepOk, sideI, Bool.and_eq_true, decide_eq_true_eq]
      have a : Wqbbch.SIDE = 512 := rfl
      have b : Wqbbch.DEEP = 128 := rfl
      omega
    by_cases c : Wqbbch.one L = true ∧ Wqbbch.deepOk h = true ∧ Wqbbch.one W = true ∧ Wqbbch.one Hh = true
    · rw [if_pos c, if_pos (e.mp c)]
    · rw [if_neg c, if_neg fun z => c (e.mpr z)]
  have told : ∀ k : Wqbbch.Kind, kk kind = k → kind ≤ 2 → Wqbbch.kindAt kind.toNat = some k → RugDNeutral.shown (Wqbbch.answer (.fits kind.toNat L h W Hh)) = if inB kind L h W Hh = true then (if Wqbbch.fits (kk kind) L h W Hh = true then [1] else [0]) else [-1] := fun k ek hk ea => by
    unfold Wqbbch.answer Wqbbch.ofKind
    simp only [ea]
    rw [body, ek]
    unfold inB
    rw [decide_eq_true hk, Bool.true_and]
    by_cases c : (decide (1 ≤ h) && decide (h ≤ 128) && (sideI L && (sideI W && sideI Hh))) = true
    · rw [if_pos c, if_pos c]
      by_cases d : Wqbbch.fits k L h W Hh = true
      · rw [if_pos d, if_pos d]; rfl
      · rw [if_neg d, if_neg d]; rfl
    · rw [if_neg c, if_neg c]; rfl
  by_cases c0 : kind = 0
  · exact told .set (by rw [c0]; rfl) (by omega) (by rw [c0]; rfl)
  by_cases c1 : kind = 1
  · exact told .met (by rw [c1]; rfl) (by omega) (by rw [c1]; rfl)
  by_cases c2 : kind = 2
  · exact told .run (by rw [c2]; rfl) (by omega) (by rw [c2]; rfl)
  have e : kind.toNat = kind.toNat - 3 + 3 := by omega
  have z : inB kind L h W Hh = false := by
    unfold inB
    rw [decide_eq_false (show ¬ kind ≤ 2 by omega)]
    rfl
  rw [z, if_neg (by decide), e]
  rfl
theorem scFits : FnScope ["kind", "L", "h", "W", "H"] ["kind", "L", "h", "W", "H"] (defScope sFits) := ⟨rfl, rfl, rfl, by decide +kernel, rfl, by decide +kernel, by decide +kernel⟩
theorem ok_fits {fI fO : Addr} {dI dO : FuncData} (F : Fun K "fits" "fits" sFits f fd) (I : Defs K P w mg base 3 "in_bounds" ["kind", "L", "h", "W", "H"] spInB fI dI) (O : Defs K P w mg base 2 "comes_out" ["kind", "L", "h", "W", "H"] spOut fO dO) :
    FnOk P w K mg base CX0 4 f fd ["kind", "L", "h", "W", "H"] spFits := by
  refine F.ok scFits (fun vs H Q E h => ?_) (fun cdv A outer s H vs Q E hr h => ?_)
  · obtain ⟨a, b, c, d, e, rfl, _⟩ := h
    rfl
  obtain ⟨kind, L, h, W, Hh, rfl, k0, l0, h0, w0, h1, q⟩ := h
  have hr1 : Room 2 _ := hr.mono (by decide)
  refine ⟨_, pss_cons (ps_if (pt_not (pt_val (pe_call I.G hr rfl I.m I.kp I.b .nil pass0 (pn 0 (pn 1 (pn 2 (pn 3 (pn 4 pa_nil)))))))) (pss_one (ps_ret (pe_lst (pa_cons (pe_un un_neg pe_int) pa_nil)))) pss_nil)
    (pss_cons (ps_if (pt_val (pe_call O.G hr1 rfl O.m O.kp O.b .nil pass0 (pn 0 (pn 1 (pn 2 (pn 3 (pn 4 pa_nil))))))) (pss_one (ps_ret (pe_lst (pa_cons pe_int pa_nil)))) pss_nil)
    (pss_one (ps_ret (pe_lst (pa_cons pe_int pa_nil))))), ?_⟩
  have one : (1 : Nat) ≤ sizeLine := by decide
  rw [in_bounds_is k0 l0 h0 w0 h1] at q
  refine ⟨_, rfl, _, rfl, _, rfl, _, rfl, _, rfl, kind, L, h, W, Hh, rfl, _, rfl, ?_⟩
  cases e1 : inZ kind L h W Hh with
  | false =>
    rw [if_neg (by rw [e1]; decide)] at q
    exact iteT ⟨_, rfl, one, fun p hp => q p _ upd_same⟩
  | true =>
  rw [if_pos e1] at q
  refine iteF ?_
  have hL : 0 < L := by
    simp only [inZ, sideZ, Bool.and_eq_true, decide_eq_true_eq] at e1
    omega
  refine ⟨_, rfl, _, rfl, _, rfl, _, rfl, _, rfl, kind, L, h, W, Hh, rfl, hL, _, rfl, ?_⟩
  cases e2 : outZ kind L h W Hh with
  | false =>
    rw [if_neg (by rw [e2]; decide)] at q
    exact iteF ⟨one, fun p hp => q p _ upd_same⟩
  | true =>
    rw [if_pos e2] at q
    exact iteT ⟨one, fun p hp => q p _ upd_same⟩
end
/-- the request and the answer -/
theorem request {K : PySem.W.Frag} {H : Hp} {xs : List V} {a : Codec.denoteAll PySem.Challenge.rw_rugborders_s01_fits.args} (hwi : Codec.withinAll PySem.Challenge.rw_rugborders_s01_fits.args a = true) (hx : DwAll K H xs (Codec.encAll PySem.Challenge.rw_rugborders_s01_fits.args a)) :
    spFits xs H (fun v H' => Dw K H' v (PySem.Challenge.rw_rugborders_s01_fits.ret.enc (Codec.app PySem.Challenge.rw_rugborders_s01_fits.args PySem.Challenge.rw_rugborders_s01_fits.f a))) (fun _ _ _ => False) := by
  obtain ⟨kind, L, h, W, Hh, u⟩ := a
  have q : (Codec.inInt 0 4294967295 kind && (Codec.inInt 0 4294967295 L && (Codec.inInt 0 4294967295 h && (Codec.inInt 0 4294967295 W && (Codec.inInt 0 4294967295 Hh && true))))) = true := hwi
  simp only [Bool.and_eq_true] at q
  obtain ⟨q1, q2, q3, q4, q5, _⟩ := q
  cases hx with
  | cons h1 hx =>
  cases hx with
  | cons h2 hx =>
  cases hx with
  | cons h3 hx =>
  cases hx with
  | cons h4 hx =>
  cases hx with
  | cons h5 hx =>
  cases hx
  cases h1
  cases h2
  cases h3
  cases h4
  cases h5
  exact ⟨kind, L, h, W, Hh, rfl, (Codec.inInt_iff.mp q1).1, (Codec.inInt_iff.mp q2).1, (Codec.inInt_iff.mp q3).1, (Codec.inInt_iff.mp q4).1, (Codec.inInt_iff.mp q5).1, fun p H' hp => .lst (SqL.of hp) (dw_ints _)⟩
theorem all_mk {P : Program} {w : World} {K : PySem.W.Frag} {h : Heap} {mg : Str → Option Value} {fa f0 f1 f2 f3 f4 f5 f6 : Addr} (X : K.In h) (G : h.Ns mainGlobals mg) (hfa : mg "fits" = some (.ref fa))
    {od0 an0 od1 an1 od2 an2 od3 an3 od4 an4 od5 an5 od6 an6 : Option Addr} {sl0 sl1 sl2 sl3 sl4 sl5 sl6 : Array (Option Value)} {oc0 kV0 dc0 pm0 cd0 ct0 oc1 kV1 dc1 pm1 cd1 ct1 oc2 kV2 dc2 pm2 cd2 ct2 oc3 kV3 dc3 pm3 cd3 ct3 oc4 kV4 dc4 pm4 cd4 ct4 oc5 kV5 dc5 pm5 cd5 ct5 oc6 kV6 dc6 pm6 cd6 ct6 : Value} {t0 t1 t2 t3 t4 : Tok}
    (a0 : PySem.W.nsIn K mainGlobals "is_side" = some (some (.ref f0))) (l0 : K.lookup f0 = some ⟨oc0, od0, .func (PySem.W.fnOf "is_side" "is_side" (defArgs sSide) (defBody sSide) (defScope sSide) .none kV0 dc0 pm0 an0 cd0 ct0), sl0⟩) (c0 : PySem.W.codeIn K cd0 "is_side" = true) (k0 : PySem.W.keepIn K (.ref f0) = true)
    (a1 : PySem.W.nsIn K mainGlobals "is_depth" = some (some (.ref f1))) (l1 : K.lookup f1 = some ⟨oc1, od1, .func (PySem.W.fnOf "is_depth" "is_depth" (defArgs sDep) (defBody sDep) (defScope sDep) .none kV1 dc1 pm1 an1 cd1 ct1), sl1⟩) (c1 : PySem.W.codeIn K cd1 "is_depth" = true) (k1 : PySem.W.keepIn K (.ref f1) = true)
    (a2 : PySem.W.nsIn K mainGlobals "is_border" = some (some (.ref f2))) (l2 : K.lookup f2 = some ⟨oc2, od2, .func (PySem.W.fnOf "is_border" "is_border" (defArgs sBord) (defBody sBord) (defScope sBord) .none kV2 dc2 pm2 an2 cd2 ct2), sl2⟩) (c2 : PySem.W.codeIn K cd2 "is_border" = true) (k2 : PySem.W.keepIn K (.ref f2) = true)
    (a3 : PySem.W.nsIn K mainGlobals "in_bounds" = some (some (.ref f3))) (l3 : K.lookup f3 = some ⟨oc3, od3, .func (PySem.W.fnOf "in_bounds" "in_bounds" (defArgs sInB) (defBody sInB) (defScope sInB) .none kV3 dc3 pm3 an3 cd3 ct3), sl3⟩) (c3 : PySem.W.codeIn K cd3 "in_bounds" = true) (k3 : PySem.W.keepIn K (.ref f3) = true)
    (a4 : PySem.W.nsIn K mainGlobals "comes_out_along" = some (some (.ref f4))) (l4 : K.lookup f4 = some ⟨oc4, od4, .func (PySem.W.fnOf "comes_out_along" "comes_out_along" (defArgs sAlong) (defBody sAlong) (defScope sAlong) .none kV4 dc4 pm4 an4 cd4 ct4), sl4⟩) (c4 : PySem.W.codeIn K cd4 "comes_out_along" = true) (k4 : PySem.W.keepIn K (.ref f4) = true)
    (a5 : PySem.W.nsIn K mainGlobals "comes_out" = some (some (.ref f5))) (l5 : K.lookup f5 = some ⟨oc5, od5, .func (PySem.W.fnOf "comes_out" "comes_out" (defArgs sOut) (defBody sOut) (defScope sOut) .none kV5 dc5 pm5 an5 cd5 ct5), sl5⟩) (c5 : PySem.W.codeIn K cd5 "comes_out" = true) (k5 : PySem.W.keepIn K (.ref f5) = true)
    (a6 : PySem.W.nsIn K mainGlobals "fits" = some (some (.ref f6))) (l6 : K.lookup f6 = some ⟨oc6, od6, .func (PySem.W.fnOf "fits" "fits" (defArgs sFits) (defBody sFits) (defScope sFits) .none kV6 dc6 pm6 an6 cd6 ct6), sl6⟩) (c6 : PySem.W.codeIn K cd6 "fits" = true) (k6 : PySem.W.keepIn K (.ref f6) = true)
    (u0 : PySem.W.nsIn K mainGlobals "MOST_SIDE" = some (some (.int 512 t0)))
    (u1 : PySem.W.nsIn K mainGlobals "SET" = some (some (.int 0 t1)))
    (u2 : PySem.W.nsIn K mainGlobals "MET" = some (some (.int 1 t2)))
    (u3 : PySem.W.nsIn K mainGlobals "RUN" = some (some (.int 2 t3)))
    (u4 : PySem.W.nsIn K mainGlobals "MOST_DEPTH" = some (some (.int 128 t4))) :
    ∃ fd : FuncData, (∀ (s : Shared) (us : List Value), us.length = (["kind", "L", "h", "W", "H"] : List Str).length → BindsTo s fd ⟨us, []⟩ ((["kind", "L", "h", "W", "H"] : List Str).zip us)) ∧ ∀ base : Heap, K.In base → base.Ns mainGlobals mg → FnOk P w K mg base CX0 4 fa fd ["kind", "L", "h", "W", "H"] spFits := by
  have e := hfa.symm.trans (PySem.W.mg_of X G a6)
  cases e
  have F0 := fun_mk (st := sSide) l0 c0 k0
  have m0 := PySem.W.mg_of X G a0
  have F1 := fun_mk (st := sDep) l1 c1 k1
  have m1 := PySem.W.mg_of X G a1
  have F2 := fun_mk (st := sBord) l2 c2 k2
  have m2 := PySem.W.mg_of X G a2
  have F3 := fun_mk (st := sInB) l3 c3 k3
  have m3 := PySem.W.mg_of X G a3
  have F4 := fun_mk (st := sAlong) l4 c4 k4
  have m4 := PySem.W.mg_of X G a4
  have F5 := fun_mk (st := sOut) l5 c5 k5
  have m5 := PySem.W.mg_of X G a5
  have F6 := fun_mk (st := sFits) l6 c6 k6
  have m6 := PySem.W.mg_of X G a6
  have v_MOST_SIDE := PySem.W.mg_of X G u0
  have v_SET := PySem.W.mg_of X G u1
  have v_MET := PySem.W.mg_of X G u2
  have v_RUN := PySem.W.mg_of X G u3
  have v_MOST_DEPTH := PySem.W.mg_of X G u4
  refine ⟨PySem.W.fnOf "fits" "fits" (defArgs sFits) (defBody sFits) (defScope sFits) .none kV6 dc6 pm6 an6 cd6 ct6, fun s us hu => match us, hu with | [_, _, _, _, _], _ => .of_eq rfl, fun base _ _ => ?_⟩
  have b0 := F0.binds (ps := ["number"]) fun _ _ _ _ _ _ us hl => match us, hl with | [_], _ => rfl
  have b1 := F1.binds (ps := ["h"]) fun _ _ _ _ _ _ us hl => match us, hl with | [_], _ => rfl
  have b2 := F2.binds (ps := ["kind", "L", "h"]) fun _ _ _ _ _ _ us hl => match us, hl with | [_, _, _], _ => rfl
  have b3 := F3.binds (ps := ["kind", "L", "h", "W", "H"]) fun _ _ _ _ _ _ us hl => match us, hl with | [_, _, _, _, _], _ => rfl
  have b4 := F4.binds (ps := ["kind", "L", "h", "side"]) fun _ _ _ _ _ _ us hl => match us, hl with | [_, _, _, _], _ => rfl
  have b5 := F5.binds (ps := ["kind", "L", "h", "W", "H"]) fun _ _ _ _ _ _ us hl => match us, hl with | [_, _, _, _, _], _ => rfl
  have D0 : Defs K P w mg base _ "is_side" _ _ _ _ := ⟨ok_side (P := P) (w := w) (base := base) F0 v_MOST_SIDE, b0, k0, m0⟩
  have D1 : Defs K P w mg base _ "is_depth" _ _ _ _ := ⟨ok_dep (P := P) (w := w) (base := base) F1 v_MOST_DEPTH, b1, k1, m1⟩
  have D2 : Defs K P w mg base _ "is_border" _ _ _ _ := ⟨ok_bord (P := P) (w := w) (base := base) F2 v_RUN D0 D1, b2, k2, m2⟩
  have D3 : Defs K P w mg base _ "in_bounds" _ _ _ _ := ⟨ok_inB (P := P) (w := w) (base := base) F3 D2 D0, b3, k3, m3⟩
  have D4 : Defs K P w mg base _ "comes_out_along" _ _ _ _ := ⟨ok_along (P := P) (w := w) (base := base) F4 v_SET v_MET, b4, k4, m4⟩
  have D5 : Defs K P w mg base _ "comes_out" _ _ _ _ := ⟨ok_out (P := P) (w := w) (base := base) F5 D4, b5, k5, m5⟩
  exact ok_fits F6 D3 D5
end RH
open PySem PySem.W PyProof.Rows
set_option maxRecDepth 100000 in
set_option maxHeartbeats 8000000 in
theorem PySem.Challenge.cw_rugborders_s01_fits_holds : PySem.Challenge.rw_rugborders_s01_fits.Holds := by
  w_on; k_headS; (case hw => exact ⟨[.int 0, .int 0, .int 0, .int 0, .int 0], by decide +kernel, by decide +kernel⟩)
  k_fillS
  refine L2.walk_specK (r := PySem.Challenge.rw_rugborders_s01_fits) (k := 4) (CX := L2.CX0) (ps := ["kind", "L", "h", "W", "H"]) (sp := fun _ => RH.spFits) (by decide +kernel) rfl rfl ⟨rfl, by decide, by decide⟩ (fun w h Y => PySem.W.kIn_of Y) ?F ?S (fun _ _ _ _ z => z)
  case F =>
    intro w mg fa h Y KX G hmg
    refine' RH.all_mk KX G hmg ?a0 ?l0 ?c0 ?k0 ?a1 ?l1 ?c1 ?k1 ?a2 ?l2 ?c2 ?k2 ?a3 ?l3 ?c3 ?k3 ?a4 ?l4 ?c4 ?k4 ?a5 ?l5 ?c5 ?k5 ?a6 ?l6 ?c6 ?k6 ?u0 ?u1 ?u2 ?u3 ?u4
    (case a0 => k_is)
    (case l0 => k_is)
    (case c0 => k_is)
    (case k0 => k_is)
    (case a1 => k_is)
    (case l1 => k_is)
    (case c1 => k_is)
    (case k1 => k_is)
    (case a2 => k_is)
    (case l2 => k_is)
    (case c2 => k_is)
    (case k2 => k_is)
    (case a3 => k_is)
    (case l3 => k_is)
    (case c3 => k_is)
    (case k3 => k_is)
    (case a4 => k_is)
    (case l4 => k_is)
    (case c4 => k_is)
    (case k4 => k_is)
    (case a5 => k_is)
    (case l5 => k_is)
    (case c5 => k_is)
    (case k5 => k_is)
    (case a6 => k_is)
    (case l6 => k_is)
    (case c6 => k_is)
    (case k6 => k_is)
    (case u0 => k_is)
    (case u1 => k_is)
    (case u2 => k_is)
    (case u3 => k_is)
    (case u4 => k_is)
  case S =>
    intro K H xs a hO hwi hask hx
    exact RH.request hwi hx
