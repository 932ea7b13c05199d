import PyProof.Rows.All
import Wide.All
import OpenK.AllK
import Wide.FinOn
import Open.SpecLaws
import KE.OsGo
import HandS.ForSpec
import HandS.Flow
import HandS.Comp
import HandS.Iter
import HandS.Walk
import PySem.Challenge.RW_rugborders_s07_sizes
set_option Elab.async false
set_option linter.all false
set_option maxRecDepth 100000
set_option maxHeartbeats 4000000
namespace RM
open Wqbbch
/-! ### a chart's text -/
def bi (k : Nat) : Int := ((byteOf k).toNat : Int)
def encRows (rows : List (List Nat)) : List (List Int) := rows.map fun r => r.map bi
def enc (c : Chart) : List (List Int) := encRows c.rows
def flat (rows : List (List Int)) : List Int := rows.flatMap fun r => r ++ [10]
def isCol (b : Int) : Bool := (decide (97 ≤ b) && decide (b ≤ 122)) || ((decide (65 ≤ b) && decide (b ≤ 90)) || (decide (48 ≤ b) && decide (b ≤ 57)))
def dec (b : Int) : Nat := ((List.range 62).find? fun k => decide (bi k = b)).getD 0
theorem bi_col : ∀ k, k < 62 → isCol (bi k) = true ∧ bi k ≠ 10 := by decide +kernel
theorem col_dec0 : ∀ n : Nat, n < 128 → isCol (n : Int) = true → dec (n : Int) < 62 ∧ bi (dec (n : Int)) = (n : Int) := by decide +kernel
theorem col_range {b : Int} (h : isCol b = true) : 48 ≤ b ∧ b ≤ 122 := by
  simp only [isCol, Bool.or_eq_true, Bool.and_eq_true, decide_eq_true_eq] at h
  omega
theorem col_dec {b : Int} (h : isCol b = true) : dec b < 62 ∧ bi (dec b) = b := by
  have r := col_range h
  have e : b = ((b.toNat : Nat) : Int) := by omega
  have q := col_dec0 b.toNat (by omega) (by rw [← e]; exact h)
  rw [← e] at q
  exact q
theorem colour_byte : ∀ k, k < 62 → colourOf (byteOf k) = some k := by decide +kernel
theorem byte_lf : ∀ k, k < 62 → byteOf k ≠ LF := by decide +kernel
/-! ### the reading loop -/
def parseGo : List Int → List (List Int) → List Int → Option (List (List Int) × List Int)
  | [], rows, row => some (rows, row)
  | b :: r, rows, row => if b = 10 then parseGo r (rows ++ [row]) [] else if isCol b = true then parseGo r rows (row ++ [b]) else none
def sizeOkI (w h : Nat) : Bool := decide (1 ≤ w) && decide (w ≤ 512) && (decide (1 ≤ h) && decide (h ≤ 512)) && decide (w * h ≤ 65536)
def wideOf (rows : List (List Int)) : Nat := (rows.headD []).length
def isChart (rows : List (List Int)) : Bool := !rows.isEmpty && rows.all (fun r => decide (r.length = wideOf rows)) && sizeOkI (wideOf rows) rows.length
def parse (ns : List Int) : Option (List (List Int)) := match parseGo ns [] [] with
  | none => none
  | some (rows, row) => if row = [] ∧ isChart rows = true then some rows else none
def allCol (r : List Int) : Prop := ∀ b ∈ r, isCol b = true
theorem parse_row : ∀ (r : List Int) (rest : List Int) (rows : List (List Int)) (row : List Int), allCol r → parseGo (r ++ 10 :: rest) rows row = parseGo rest (rows ++ [row ++ r]) []
  | [], rest, rows, row, _ => by
    show (if (10 : Int) = 10 then parseGo rest (rows ++ [row]) [] else _) = _
    rw [if_pos rfl, List.append_nil]
  | b :: r, rest, rows, row, h => by
    have hb : isCol b = true := h b (List.mem_cons_self ..)
    have nb : b ≠ 10 := by have := col_range hb; omega
    show (if b = 10 then parseGo (r ++ 10 :: rest) (rows ++ [row]) [] else if isCol b = true then parseGo (r ++ 10 :: rest) rows (row ++ [b]) else none) = _
    rw [if_neg nb, if_pos hb, parse_row r rest rows (row ++ [b]) fun x hx => h x (List.mem_cons_of_mem _ hx), List.append_assoc] <;> rfl
theorem parse_flat : ∀ (l rows : List (List Int)), (∀ r ∈ l, allCol r) → parseGo (flat l) rows [] = some (rows ++ l, [])
  | [], rows, _ => by
    show some (rows, []) = _
    rw [List.append_nil]
  | r :: l, rows, h => by
    have e : flat (r :: l) = r ++ 10 :: flat l := by simp [flat]
    rw [e, parse_row _ _ _ _ (h r (List.mem_cons_self ..)), parse_flat l _ fun x hx => h x (List.mem_cons_of_mem _ hx)]
    simp
theorem parse_inv : ∀ (ns : List Int) (rows : List (List Int)) (row : List Int) (R : List (List Int)) (q : List Int), parseGo ns rows row = some (R, q) → (∀ r ∈ rows, allCol r) → allCol row → (∀ r ∈ R, allCol r) ∧ allCol q ∧ flat R ++ q = flat rows ++ row ++ ns
  | [], rows, row, R, q, e, h1, h2 => by
    have e' : (rows, row) = (R, q) := Option.some.inj e
    cases e'
    exact ⟨h1, h2, by rw [List.append_nil]⟩
  | b :: r, rows, row, R, q, e, h1, h2 => by
    have e' : (if b = 10 then parseGo r (rows ++ [row]) [] else if isCol b = true then parseGo r rows (row ++ [b]) else none) = some (R, q) := e
    by_cases hb : b = 10
    · rw [if_pos hb] at e'
      have z := parse_inv r _ _ R q e' (by
        intro x hx
        rcases List.mem_append.mp hx with hx | hx
        · exact h1 x hx
        · rw [List.mem_singleton] at hx
          rw [hx]; exact h2) (by intro x hx; cases hx)
      refine ⟨z.1, z.2.1, z.2.2.trans ?_⟩
      subst hb
      simp [flat]
    · rw [if_neg hb] at e'
      by_cases hc : isCol b = true
      · rw [if_pos hc] at e'
        have z := parse_inv r _ _ R q e' h1 (by
          intro x hx
          rcases List.mem_append.mp hx with hx | hx
          · exact h2 x hx
          · rw [List.mem_singleton] at hx
            rw [hx]; exact hc)
        refine ⟨z.1, z.2.1, z.2.2.trans ?_⟩
        simp
      · rw [if_neg hc] at e'
        cases e'
/-! ### charts of the specification -/
theorem right_iff {c : Chart} : c.right = true ↔ (1 ≤ c.wide ∧ c.wide ≤ 512 ∧ 1 ≤ c.high ∧ c.high ≤ 512) ∧ c.wide * c.high ≤ 65536 ∧ c.rows.length = c.high ∧ ∀ r ∈ c.rows, r.length = c.wide ∧ ∀ k ∈ r, k < 62 := by
  simp only [Chart.right, sizeOk, Bool.and_eq_true, decide_eq_true_eq, List.all_eq_true]
  exact Iff.rfl
theorem cut_row : ∀ (r : List UInt8) (rest : List UInt8) (p : Nat) (w : List UInt8), (∀ b ∈ r, b ≠ LF) → cut LF p w (r ++ LF :: rest) = (p, w ++ r) :: cut LF (p + (w ++ r).length + 1) [] rest
  | [], rest, p, w, _ => by
    show (if LF = LF then _ else _) = _
    rw [if_pos rfl, List.append_nil]
  | b :: r, rest, p, w, h => by
    show (if b = LF then _ else cut LF p (w ++ [b]) (r ++ LF :: rest)) = _
    rw [if_neg (h b (List.mem_cons_self ..)), cut_row r rest p (w ++ [b]) fun x hx => h x (List.mem_cons_of_mem _ hx), List.append_assoc]
    rfl
theorem cut_text : ∀ (rows : List (List Nat)) (p : Nat), (∀ r ∈ rows, ∀ k ∈ r, k < 62) → ∃ q, (cut LF p [] (rows.flatMap fun (r : List Nat) => r.map byteOf ++ [LF])).map (fun (x : Nat × List UInt8) => x.2.map colourOf) = rows.map (fun r => r.map some) ++ [q]
  | [], p, _ => ⟨[], rfl⟩
  | r :: rows, p, h => by
    have e : ((r :: rows).flatMap fun (r : List Nat) => r.map byteOf ++ [LF]) = r.map byteOf ++ LF :: (rows.flatMap fun (r : List Nat) => r.map byteOf ++ [LF]) := by simp
    obtain ⟨q, hq⟩ := cut_text rows (p + ([] ++ r.map byteOf).length + 1) fun x hx => h x (List.mem_cons_of_mem _ hx)
    refine ⟨q, ?_⟩
    rw [e, cut_row _ _ _ _ (by
      intro b hb
      obtain ⟨k, hk, rfl⟩ := List.mem_map.mp hb
      exact byte_lf k (h r (List.mem_cons_self ..) k hk)), List.map_cons, hq]
    have z : ([] ++ r.map byteOf).map colourOf = r.map some := by
      rw [List.nil_append, List.map_map]
      exact List.map_congr_left fun k hk => colour_byte k (h r (List.mem_cons_self ..) k hk)
    show ([] ++ r.map byteOf).map colourOf :: _ = _
    rw [z] <;> rfl
theorem unsome : ∀ r : List Nat, (r.map some).filterMap id = r
  | [] => rfl
  | k :: r => by
    show k :: (r.map some).filterMap id = k :: r
    rw [unsome r]
theorem chart_text {c : Chart} (h : c.right = true) : chartOf c.text = some c := by
  obtain ⟨h1, h2, h3, h4⟩ := right_iff.mp h
  obtain ⟨q, hq⟩ := cut_text c.rows 0 fun r hr => (h4 r hr).2
  have hl : ((cut LF 0 [] c.text).map fun (x : Nat × List UInt8) => x.2.map colourOf).dropLast = c.rows.map fun r => r.map some := by
    show ((cut LF 0 [] (c.rows.flatMap fun (r : List Nat) => r.map byteOf ++ [LF])).map fun (x : Nat × List UInt8) => x.2.map colourOf).dropLast = _
    rw [hq, List.dropLast_concat]
  have hr : (c.rows.map fun r => r.map some).map (fun (r : List (Option Nat)) => r.filterMap id) = c.rows := by
    rw [List.map_map]
    conv => rhs; rw [← List.map_id c.rows]
    exact List.map_congr_left fun r _ => unsome r
  have hw : ((c.rows.map fun r => r.map some).headD []).length = c.wide := by
    cases e : c.rows with
    | nil => rw [e] at h3; have h3' : 0 = c.high := h3; omega
    | cons r l =>
      show (r.map some).length = _
      rw [List.length_map]
      exact (h4 r (by rw [e]; exact List.mem_cons_self ..)).1
  unfold chartOf
  simp only [hl]
  rw [hw, hr, List.length_map, h3]
  exact if_pos ⟨h, rfl⟩
theorem text_flat (rows : List (List Nat)) : RugDNeutral.text (flat (encRows rows)) = rows.flatMap fun (r : List Nat) => r.map byteOf ++ [LF] := by
  induction rows with
  | nil => rfl
  | cons r l ih =>
    have e : flat (encRows (r :: l)) = r.map bi ++ 10 :: flat (encRows l) := by simp [flat, encRows]
    rw [e]
    have t : ∀ a b, RugDNeutral.text (a ++ b) = RugDNeutral.text a ++ RugDNeutral.text b := by
      intro a b
      simp [RugDNeutral.text, RugDNeutral.nats]
    rw [t]
    have t2 : RugDNeutral.text (10 :: flat (encRows l)) = LF :: RugDNeutral.text (flat (encRows l)) := rfl
    rw [t2, ih]
    have t3 : RugDNeutral.text (r.map bi) = r.map byteOf := by
      show (((r.map bi).map Int.toNat).map UInt8.ofNat) = _
      rw [List.map_map, List.map_map]
      refine List.map_congr_left fun k _ => ?_
      show UInt8.ofNat (((byteOf k).toNat : Int).toNat) = byteOf k
      rw [Int.toNat_natCast, UInt8.ofNat_toNat]
    rw [t3]
    simp
def bytesOk (ns : List Int) : Prop := ∀ b ∈ ns, 0 ≤ b ∧ b ≤ 255
theorem text_back {ns : List Int} (h : bytesOk ns) : (RugDNeutral.text ns).map (fun c => ((c.toNat : Nat) : Int)) = ns := by
  show (((ns.map Int.toNat).map UInt8.ofNat).map _) = _
  rw [List.map_map, List.map_map]
  conv => rhs; rw [← List.map_id ns]
  refine List.map_congr_left fun b hb => ?_
  show (((UInt8.ofNat b.toNat).toNat : Nat) : Int) = b
  have := h b hb
  rw [UInt8.toNat_ofNat']
  omega
theorem flat_bytes (rows : List (List Nat)) : (rows.flatMap fun (r : List Nat) => r.map byteOf ++ [LF]).map (fun c => ((c.toNat : Nat) : Int)) = flat (encRows rows) := by
  induction rows with
  | nil => rfl
  | cons r l ih =>
    have e : flat (encRows (r :: l)) = r.map bi ++ 10 :: flat (encRows l) := by simp [flat, encRows]
    rw [e, ← ih]
    simp [bi, LF]
theorem enc_col {c : Chart} (h : c.right = true) : ∀ r ∈ enc c, allCol r := by
  intro r hr b hb
  obtain ⟨s, hs, rfl⟩ := List.mem_map.mp hr
  obtain ⟨k, hk, rfl⟩ := List.mem_map.mp hb
  exact (bi_col k (((right_iff.mp h).2.2.2 s hs).2 k hk)).1
theorem enc_wide {c : Chart} (h : c.right = true) : wideOf (enc c) = c.wide := by
  obtain ⟨h1, h2, h3, h4⟩ := right_iff.mp h
  unfold wideOf enc encRows
  cases e : c.rows with
  | nil => rw [e] at h3; have h3' : 0 = c.high := h3; omega
  | cons r l =>
    show (r.map bi).length = _
    rw [List.length_map]
    exact (h4 r (by rw [e]; exact List.mem_cons_self ..)).1
theorem enc_high {c : Chart} (h : c.right = true) : (enc c).length = c.high := by
  rw [enc, encRows, List.length_map]
  exact (right_iff.mp h).2.2.1
theorem enc_chart {c : Chart} (h : c.right = true) : isChart (enc c) = true := by
  obtain ⟨h1, h2, h3, h4⟩ := right_iff.mp h
  have e1 := enc_wide h
  have e2 := enc_high h
  unfold isChart
  rw [e1, e2]
  simp only [sizeOkI, Bool.and_eq_true, decide_eq_true_eq, List.all_eq_true]
  refine ⟨⟨?_, ?_⟩, ⟨⟨⟨h1.1, h1.2.1⟩, h1.2.2⟩, h2⟩⟩
  · cases e : enc c with
    | nil => rw [e] at e2; have e2' : 0 = c.high := e2; omega
    | cons => rfl
  · intro r hr
    obtain ⟨s, hs, rfl⟩ := List.mem_map.mp hr
    rw [List.length_map]
    exact (h4 s hs).1
theorem parse_of_right {c : Chart} (h : c.right = true) : parse (flat (enc c)) = some (enc c) := by
  unfold parse
  rw [parse_flat _ _ (enc_col h)]
  exact if_pos ⟨rfl, by rw [List.nil_append]; exact enc_chart h⟩
theorem parse_some {ns : List Int} {rows : List (List Int)} (e : parse ns = some rows) : ∃ c : Chart, chartOf (RugDNeutral.text ns) = some c ∧ c.right = true ∧ rows = enc c := by
  unfold parse at e
  cases e1 : parseGo ns [] [] with
  | none => rw [e1] at e; cases e
  | some p =>
    obtain ⟨R, q⟩ := p
    rw [e1] at e
    have e' : (if q = [] ∧ isChart R = true then some R else none) = some rows := e
    by_cases hc : q = [] ∧ isChart R = true
    · rw [if_pos hc] at e'
      cases e'
      obtain ⟨hq, hch⟩ := hc
      subst hq
      obtain ⟨z1, _, z3⟩ := parse_inv ns [] [] rows [] e1 (by intro r hr; cases hr) (by intro r hr; cases hr)
      have z3' : flat rows = ns := by simpa [flat] using z3
      have back : encRows (rows.map fun r => r.map dec) = rows := by
        unfold encRows
        rw [List.map_map]
        conv => rhs; rw [← List.map_id rows]
        refine List.map_congr_left fun r hr => ?_
        show (r.map dec).map bi = r
        rw [List.map_map]
        conv => rhs; rw [← List.map_id r]
        exact List.map_congr_left fun b hb => (col_dec (z1 r hr b hb)).2
      have hch' := hch
      simp only [isChart, sizeOkI, Bool.and_eq_true, decide_eq_true_eq, List.all_eq_true] at hch'
      obtain ⟨⟨_, ha⟩, ⟨⟨hw1, hw2⟩, hh⟩, hk⟩ := hch'
      let c : Chart := ⟨wideOf rows, rows.length, rows.map fun r => r.map dec⟩
      have hr : c.right = true := by
        refine right_iff.mpr ⟨⟨hw1, hw2, hh⟩, hk, List.length_map _, ?_⟩
        intro r hr
        obtain ⟨s, hs, rfl⟩ := List.mem_map.mp hr
        refine ⟨by rw [List.length_map]; exact ha s hs, ?_⟩
        intro k hk
        obtain ⟨b, hb, rfl⟩ := List.mem_map.mp hk
        exact (col_dec (z1 s hs b hb)).1
      refine ⟨c, ?_, hr, back.symm⟩
      have ht : c.text = RugDNeutral.text ns := by
        rw [← z3', ← back]
        exact (text_flat _).symm
      rw [← ht]
      exact chart_text hr
    · rw [if_neg hc] at e'
      cases e'
theorem parse_none {ns : List Int} (hb : bytesOk ns) (e : parse ns = none) : chartOf (RugDNeutral.text ns) = none := by
  cases h : chartOf (RugDNeutral.text ns) with
  | none => rfl
  | some c =>
    have q : c.right = true ∧ c.text = RugDNeutral.text ns := by
      unfold chartOf at h
      simp only at h
      split at h
      · rename_i hh
        cases h
        exact hh
      · cases h
    have z : ns = flat (enc c) := by
      rw [← text_back hb, ← q.2]
      exact flat_bytes c.rows
    rw [z, parse_of_right q.1] at e
    cases e
end RM
namespace RM
open Wqbbch
/-! ### what a knot of the rug is -/
def told3 : From → Nat × Nat × Nat
  | .field i j => (0, i, j)
  | .strip i j => (1, i, j)
  | .corner i j => (2, i, j)
def seen (h W H x y : Nat) : Nat × Nat :=
  if x < W + h ∧ y < h then (x, y) else if W + h ≤ x ∧ y < H + h then (y, W + 2 * h - 1 - x) else if h ≤ x ∧ H + h ≤ y then (W + 2 * h - 1 - x, H + 2 * h - 1 - y) else (H + 2 * h - 1 - y, x)
def knot (k : Kind) (L h W H x y : Nat) : Nat × Nat × Nat :=
  if h ≤ x ∧ x < W + h ∧ h ≤ y ∧ y < H + h then (0, x - h, y - h) else match k with
    | .met => (1, max (min x (W + 2 * h - 1 - x)) (min y (H + 2 * h - 1 - y)) % L, min (min x (W + 2 * h - 1 - x)) (min y (H + 2 * h - 1 - y)))
    | .run => (1, (seen h W H x y).1 % L, (seen h W H x y).2)
    | .set => if (seen h W H x y).1 < h then (2, (seen h W H x y).1, (seen h W H x y).2) else (1, ((seen h W H x y).1 - h) % L, (seen h W H x y).2)
theorem s3 {a b c : Nat} {i j : Nat} (h1 : b = i) (h2 : c = j) : (a, b, c) = (a, i, j) := by rw [h1, h2]
theorem knot_is (k : Kind) (L h W H x y : Nat) (hx : x < W + 2 * h) (hy : y < H + 2 * h) (hW : 1 ≤ W) (hH : 1 ≤ H) (hh : 1 ≤ h) : told3 (fromOf k L h W H x y) = knot k L h W H x y := by
  unfold fromOf knot
  by_cases c : h ≤ x ∧ x < W + h ∧ h ≤ y ∧ y < H + h
  · rw [if_pos c]
    simp only
    rw [if_pos (by omega)]
    rfl
  · rw [if_neg c]
    simp only
    rw [if_neg (by omega)]
    cases k with
    | met => rfl
    | run =>
      simp only [seen]
      by_cases c1 : x < W + h ∧ y < h
      · rw [if_pos c1, if_pos c1]; rfl
      · rw [if_neg c1, if_neg c1]
        by_cases c2 : W + h ≤ x ∧ y < H + h
        · rw [if_pos c2, if_pos c2]; rfl
        · rw [if_neg c2, if_neg c2]
          by_cases c3 : h ≤ x ∧ H + h ≤ y
          · rw [if_pos c3, if_pos c3]; rfl
          · rw [if_neg c3, if_neg c3]; rfl
    | set =>
      simp only
      by_cases c1 : x < W + h ∧ y < h
      · have e : seen h W H x y = (x, y) := if_pos c1
        rw [e]
        simp only
        by_cases d : x < h
        · rw [if_pos (by omega), if_pos d]; rfl
        · rw [if_neg (by omega), if_neg (by omega), if_neg (by omega), if_neg (by omega), if_pos (by omega), if_neg d]; rfl
      · by_cases c2 : W + h ≤ x ∧ y < H + h
        · have e : seen h W H x y = (y, W + 2 * h - 1 - x) := (if_neg c1).trans (if_pos c2)
          rw [e]
          simp only
          by_cases d : y < h
          · rw [if_neg (by omega), if_pos (by omega), if_pos d]
            exact s3 rfl (by omega)
          · rw [if_neg (by omega), if_neg (by omega), if_neg (by omega), if_neg (by omega), if_neg d, if_pos (by omega), if_neg d]; rfl
        · by_cases c3 : h ≤ x ∧ H + h ≤ y
          · have e : seen h W H x y = (W + 2 * h - 1 - x, H + 2 * h - 1 - y) := (if_neg c1).trans ((if_neg c2).trans (if_pos c3))
            rw [e]
            simp only
            by_cases d : W + 2 * h - 1 - x < h
            · rw [if_neg (by omega), if_neg (by omega), if_pos (by omega), if_pos d]
              exact s3 (by omega) (by omega)
            · rw [if_neg (by omega), if_neg (by omega), if_neg (by omega), if_neg (by omega), if_neg (by omega), if_neg (by omega), if_pos (by omega), if_neg d]
              exact s3 (congrArg (· % L) (by omega)) rfl
          · have e : seen h W H x y = (H + 2 * h - 1 - y, x) := (if_neg c1).trans ((if_neg c2).trans (if_neg c3))
            rw [e]
            simp only
            by_cases d : H + 2 * h - 1 - y < h
            · rw [if_neg (by omega), if_neg (by omega), if_neg (by omega), if_pos (by omega), if_pos d]
              exact s3 (by omega) rfl
            · rw [if_neg (by omega), if_neg (by omega), if_neg (by omega), if_neg (by omega), if_neg (by omega), if_neg (by omega), if_neg (by omega), if_neg d]
              exact s3 (congrArg (· % L) (by omega)) rfl
/-- where a knot of the border lies in its chart -/
structure In3 (k : Kind) (L h W H : Nat) (p : Nat × Nat × Nat) : Prop where
  a : p.1 ≤ 2
  f : p.1 = 0 → p.2.1 < W ∧ p.2.2 < H
  s : p.1 = 1 → p.2.1 < L ∧ p.2.2 < h
  c : p.1 = 2 → k = .set ∧ p.2.1 < h ∧ p.2.2 < h
theorem seen_lt {h W H x y : Nat} (hx : x < W + 2 * h) (hy : y < H + 2 * h) (c : ¬ (h ≤ x ∧ x < W + h ∧ h ≤ y ∧ y < H + h)) : (seen h W H x y).2 < h := by
  unfold seen
  by_cases c1 : x < W + h ∧ y < h
  · rw [if_pos c1]; exact c1.2
  · rw [if_neg c1]
    by_cases c2 : W + h ≤ x ∧ y < H + h
    · rw [if_pos c2]; show W + 2 * h - 1 - x < h; omega
    · rw [if_neg c2]
      by_cases c3 : h ≤ x ∧ H + h ≤ y
      · rw [if_pos c3]; show H + 2 * h - 1 - y < h; omega
      · rw [if_neg c3]; show x < h; omega
theorem knot_in (k : Kind) {L h W H x y : Nat} (hx : x < W + 2 * h) (hy : y < H + 2 * h) (hL : 1 ≤ L) : In3 k L h W H (knot k L h W H x y) := by
  unfold knot
  by_cases c : h ≤ x ∧ x < W + h ∧ h ≤ y ∧ y < H + h
  · rw [if_pos c]
    exact ⟨by show 0 ≤ 2; omega, fun _ => ⟨by show x - h < W; omega, by show y - h < H; omega⟩, fun e => absurd (show (0 : Nat) = 1 from e) (by omega), fun e => absurd (show (0 : Nat) = 2 from e) (by omega)⟩
  · rw [if_neg c]
    have z := seen_lt hx hy c
    cases k with
    | met =>
      exact ⟨by show 1 ≤ 2; omega, fun e => absurd (show (1 : Nat) = 0 from e) (by omega), fun _ => ⟨Nat.mod_lt _ hL, by show min (min x (W + 2 * h - 1 - x)) (min y (H + 2 * h - 1 - y)) < h; omega⟩, fun e => absurd (show (1 : Nat) = 2 from e) (by omega)⟩
    | run =>
      exact ⟨by show 1 ≤ 2; omega, fun e => absurd (show (1 : Nat) = 0 from e) (by omega), fun _ => ⟨Nat.mod_lt _ hL, z⟩, fun e => absurd (show (1 : Nat) = 2 from e) (by omega)⟩
    | set =>
      simp only
      by_cases d : (seen h W H x y).1 < h
      · rw [if_pos d]
        exact ⟨by show 2 ≤ 2; omega, fun e => absurd (show (2 : Nat) = 0 from e) (by omega), fun e => absurd (show (2 : Nat) = 1 from e) (by omega), fun _ => ⟨rfl, d, z⟩⟩
      · rw [if_neg d]
        exact ⟨by show 1 ≤ 2; omega, fun e => absurd (show (1 : Nat) = 0 from e) (by omega), fun _ => ⟨Nat.mod_lt _ hL, z⟩, fun e => absurd (show (1 : Nat) = 2 from e) (by omega)⟩
/-! ### the rug -/
/-- an item of a chart's rows -/
def item (rows : List (List Int)) (x y : Nat) : Int := (rows.getD y []).getD x 0
theorem item_enc {c : Chart} (h : c.right = true) {x y : Nat} (hx : x < c.wide) (hy : y < c.high) : item (enc c) x y = bi (c.at_ x y) := by
  obtain ⟨h1, h2, h3, h4⟩ := right_iff.mp h
  have hy' : y < c.rows.length := by omega
  have hl : (c.rows[y]).length = c.wide := (h4 _ (List.getElem_mem hy')).1
  simp only [item, enc, encRows, Chart.at_, List.getD_eq_getElem?_getD, List.getElem?_map, List.getElem?_eq_getElem hy', Option.map_some, Option.getD_some]
  have hx' : x < (c.rows[y]).length := by omega
  simp only [List.getElem?_eq_getElem hx', Option.map_some, Option.getD_some]
/-- the knot's colour among the three sources -/
def srcOf (f s c : List (List Int)) (a : Nat) : List (List Int) := if a = 0 then f else if a = 1 then s else c
def pick (f s c : List (List Int)) (p : Nat × Nat × Nat) : Int := item (srcOf f s c p.1) p.2.1 p.2.2
def rugRow (k : Kind) (L h W H : Nat) (f s c : List (List Int)) (y : Nat) : List Int := (List.range (W + 2 * h)).map fun x => pick f s c (knot k L h W H x y)
def rug (k : Kind) (L h W H : Nat) (f s c : List (List Int)) : List (List Int) := (List.range (H + 2 * h)).map fun y => rugRow k L h W H f s c y
/-- the specification's rug is this one; cr: the corner's rows (no rows but for kind 0) -/
theorem rug_is {k : Kind} {t s c : Chart} {cr : List (List Int)} (ht : t.right = true) (hs : s.right = true) (hc : k = .set → c.right = true ∧ c.wide = s.high ∧ c.high = s.high ∧ cr = enc c) :
    enc (bordered k t s c) = rug k s.wide s.high t.wide t.high (enc t) (enc s) cr := by
  obtain ⟨t1, _⟩ := right_iff.mp ht
  obtain ⟨s1, _⟩ := right_iff.mp hs
  unfold enc encRows bordered Chart.by_ rug
  rw [List.map_map]
  refine List.map_congr_left fun y hy => ?_
  rw [List.mem_range] at hy
  show ((List.range (t.wide + 2 * s.high)).map _).map bi = rugRow _ _ _ _ _ _ _ _ y
  unfold rugRow
  rw [List.map_map]
  refine List.map_congr_left fun x hx => ?_
  rw [List.mem_range] at hx
  have e := knot_is k s.wide s.high t.wide t.high x y hx hy (by omega) (by omega) (by omega)
  have I := knot_in k (L := s.wide) hx hy (by omega)
  rw [← e] at I ⊢
  show bi (match fromOf k s.wide s.high t.wide t.high x y with
    | .field i j => t.at_ i j
    | .strip i j => s.at_ i j
    | .corner i j => c.at_ i j) = _
  cases q : fromOf k s.wide s.high t.wide t.high x y with
  | field i j =>
    rw [q] at I
    exact (item_enc ht (I.f rfl).1 (I.f rfl).2).symm
  | strip i j =>
    rw [q] at I
    exact (item_enc hs (I.s rfl).1 (I.s rfl).2).symm
  | corner i j =>
    rw [q] at I
    obtain ⟨hk, hi, hj⟩ := I.c rfl
    obtain ⟨c1, c2, c3, c4⟩ := hc hk
    subst c4
    exact (item_enc c1 (by show i < c.wide; rw [c2]; exact hi) (by show j < c.high; rw [c3]; exact hj)).symm
end RM
namespace RM
open Wqbbch
/-! ### the call round -/
def sideI (n : Nat) : Bool := decide (1 ≤ n) && decide (n ≤ 512)
def inB (kind : Int) (L h W H : Nat) : Bool := decide (kind ≤ 2) && (decide (1 ≤ h) && decide (h ≤ 128)) && (sideI L && (sideI W && sideI H))
def comesOut (kind : Int) (L h W H : Nat) : Bool := if kind = 0 then decide (W % L = 0) && decide (H % L = 0) else if kind = 1 then decide ((W + 2 * h) % (2 * L) = 0) && decide ((H + 2 * h) % (2 * L) = 0) else decide ((W + h) % L = 0) && decide ((H + h) % L = 0)
def rightCorner (kind : Int) (corner : List (List Int)) (h : Nat) : Bool := if kind ≠ 0 then corner.isEmpty else decide (corner.length = h) && decide (wideOf corner = h)
def refusal (kind : Int) (f s c : List (List Int)) : Int :=
  if ¬ (inB kind (wideOf s) s.length (wideOf f) f.length = true ∧ rightCorner kind c s.length = true) then -1 else if ¬ comesOut kind (wideOf s) s.length (wideOf f) f.length = true then -3
  else if ¬ sizeOkI (wideOf f + 2 * s.length) (f.length + 2 * s.length) = true then -8 else 0
def kk (kind : Int) : Kind := if kind = 0 then .set else if kind = 1 then .met else .run
def cparse (c : List Int) : Option (List (List Int)) := if c = [] then some [] else parse c
def roundM (kind : Int) (t s c : List Int) : List Int :=
  if 66048 < t.length ∨ 66048 < s.length ∨ 66048 < c.length then [-2] else match parse t, parse s, cparse c with
    | some f, some s, some c => if refusal kind f s c < 0 then [refusal kind f s c] else
      ((flat (rug (kk kind) (wideOf s) s.length (wideOf f) f.length f s c)).length : Int) :: flat (rug (kk kind) (wideOf s) s.length (wideOf f) f.length f s c)
    | _, _, _ => [-6]
theorem text_len (ns : List Int) : (RugDNeutral.text ns).length = ns.length := by simp [RugDNeutral.text, RugDNeutral.nats]
theorem shown_says (z : Int) : RugDNeutral.shown (says z) = [z] := rfl
theorem shown_whole (c : Chart) : RugDNeutral.shown (whole c) = ((flat (enc c)).length : Int) :: flat (enc c) := by
  have e := flat_bytes c.rows
  show ((c.text.length : Nat) : Int) :: ([] ++ c.text.map _) = _
  rw [List.nil_append]
  have e' : c.text.map (fun c => ((c.toNat : Nat) : Int)) = flat (enc c) := e
  rw [e', ← e', List.length_map]
theorem comes_fits {kind : Int} {L h W H : Nat} : fits (kk kind) L h W H = comesOut kind L h W H := by
  unfold kk comesOut
  by_cases c0 : kind = 0
  · rw [if_pos c0, if_pos c0]; rfl
  · rw [if_neg c0, if_neg c0]
    by_cases c1 : kind = 1
    · rw [if_pos c1, if_pos c1]; rfl
    · rw [if_neg c1, if_neg c1]; rfl
theorem size_ok {w h : Nat} : sizeOkI w h = true ↔ ¬ (sizeOk w h = false ∨ KNOTS < w * h) := by
  simp only [sizeOkI, sizeOk, Bool.and_eq_true, decide_eq_true_eq, ← Bool.not_eq_true]
  have a : SIDE = 512 := rfl
  have b : KNOTS = 65536 := rfl
  rw [a, b]
  omega
/-- the end of round, when the bounds are kept -/
theorem round_told {kind : Int} {t s c : Chart} {cr : List (List Int)} (ht : t.right = true) (hs : s.right = true) (hb : inB kind s.wide s.high t.wide t.high = true) (hr : rightCorner kind cr s.high = true)
    (hc : kk kind = .set → c.right = true ∧ c.wide = s.high ∧ c.high = s.high ∧ cr = enc c) :
    RugDNeutral.shown (roundTold (kk kind) t s c) = if refusal kind (enc t) (enc s) cr < 0 then [refusal kind (enc t) (enc s) cr] else
      ((flat (rug (kk kind) s.wide s.high t.wide t.high (enc t) (enc s) cr)).length : Int) :: flat (rug (kk kind) s.wide s.high t.wide t.high (enc t) (enc s) cr) := by
  unfold refusal roundTold
  rw [enc_wide ht, enc_high ht, enc_wide hs, enc_high hs, if_neg (not_not_intro ⟨hb, hr⟩), comes_fits]
  cases e : comesOut kind s.wide s.high t.wide t.high with
  | false => rfl
  | true =>
    show RugDNeutral.shown (if sizeOk (t.wide + 2 * s.high) (t.high + 2 * s.high) = false ∨ KNOTS < (t.wide + 2 * s.high) * (t.high + 2 * s.high) then LARGE else whole (bordered (kk kind) t s c)) = if (if ¬ sizeOkI (t.wide + 2 * s.high) (t.high + 2 * s.high) = true then -8 else 0) < 0 then [if ¬ sizeOkI (t.wide + 2 * s.high) (t.high + 2 * s.high) = true then -8 else 0] else _
    by_cases z : sizeOkI (t.wide + 2 * s.high) (t.high + 2 * s.high) = true
    · rw [if_neg (size_ok.mp z), if_neg (not_not_intro z), shown_whole, rug_is ht hs hc]
      rfl
    · rw [if_pos (Decidable.not_not.mp (fun q => z (size_ok.mpr q))), if_pos z]
      rfl
theorem refusal_bad {kind : Int} {f s c : List (List Int)} (h : ¬ (inB kind (wideOf s) s.length (wideOf f) f.length = true ∧ rightCorner kind c s.length = true)) : refusal kind f s c = -1 := if_pos h
theorem one_is {n : Nat} (h : 1 ≤ n ∧ n ≤ 512) : sideI n = true := by
  unfold sideI
  rw [decide_eq_true h.1, decide_eq_true h.2] <;> rfl
theorem round_is {kind : Int} {t s c : List Int} (hk : 0 ≤ kind) (bt : bytesOk t) (bs : bytesOk s) (bc : bytesOk c) : PyWqbbch.round_of kind t s c = roundM kind t s c := by
  show RugDNeutral.shown (answer (.round (RugDNeutral.text t) (RugDNeutral.text s) (RugDNeutral.text c) kind.toNat)) = _
  unfold roundM answer
  simp only [text_len]
  have eT : TEXT = 66048 := rfl
  rw [eT]
  by_cases c0 : 66048 < t.length ∨ 66048 < s.length ∨ 66048 < c.length
  · rw [if_pos c0, if_pos c0]; rfl
  · rw [if_neg c0, if_neg c0]
    unfold ofChart
    simp only [text_len, eT]
    rw [if_neg (show ¬ 66048 < t.length by omega)]
    cases e1 : parse t with
    | none => rw [parse_none bt e1]; rfl
    | some f =>
    obtain ⟨T, hT, rT, rfl⟩ := parse_some e1
    rw [hT]
    simp only
    rw [if_neg (show ¬ 66048 < s.length by omega)]
    cases e2 : parse s with
    | none => rw [parse_none bs e2]; rfl
    | some g =>
    obtain ⟨S, hS, rS, rfl⟩ := parse_some e2
    rw [hS]
    simp only
    obtain ⟨T1, _⟩ := right_iff.mp rT
    obtain ⟨S1, _⟩ := right_iff.mp rS
    have wT := enc_wide rT
    have hTt := enc_high rT
    have wS := enc_wide rS
    have hSs := enc_high rS
    have bnd : kind ≤ 2 → S.high ≤ 128 → inB kind S.wide S.high T.wide T.high = true := by
      intro a b
      unfold inB
      rw [decide_eq_true a, decide_eq_true S1.2.2.1, decide_eq_true b, one_is ⟨S1.1, S1.2.1⟩, one_is ⟨T1.1, T1.2.1⟩, one_is T1.2.2] <;> rfl
    have nbnd : ¬ (kind ≤ 2 ∧ S.high ≤ 128) → ¬ inB kind S.wide S.high T.wide T.high = true := by
      intro a b
      unfold inB at b
      simp only [Bool.and_eq_true, decide_eq_true_eq] at b
      exact a ⟨b.1.1, b.1.2.2⟩
    have bad : ∀ {cr : List (List Int)} {z : List Int}, ¬ (inB kind S.wide S.high T.wide T.high = true ∧ rightCorner kind cr S.high = true) → [(-1 : Int)] = if refusal kind (enc T) (enc S) cr < 0 then [refusal kind (enc T) (enc S) cr] else z := by
      intro cr z hz
      have q : refusal kind (enc T) (enc S) cr = -1 := refusal_bad (by rw [wT, hTt, wS, hSs]; exact hz)
      rw [q]; rfl
    have eD : DEEP = 128 := rfl
    by_cases c1 : c = []
    · subst c1
      have tn : RugDNeutral.text [] = [] := rfl
      rw [tn, if_pos rfl]
      show _ = if refusal kind (enc T) (enc S) [] < 0 then _ else _
      unfold kindAt
      by_cases k0 : kind = 0
      · subst k0
        exact bad (by
          intro hh
          have := hh.2
          unfold rightCorner at this
          rw [if_neg (by decide)] at this
          simp only [Bool.and_eq_true, decide_eq_true_eq] at this
          have z : (0 : Nat) = S.high := this.1
          omega)
      · by_cases k1 : kind = 1
        · subst k1
          show RugDNeutral.shown (if DEEP < S.high then BAD else roundTold .met T S S) = _
          by_cases d : DEEP < S.high
          · rw [if_pos d]
            exact bad fun hh => nbnd (by omega) hh.1
          · rw [if_neg d]
            have z := round_told (kind := 1) (c := S) (cr := []) rT rS (bnd (by omega) (by omega)) rfl (fun h => by cases h)
            rw [wS, wT, hTt, hSs]
            exact z
        · by_cases k2 : kind = 2
          · subst k2
            show RugDNeutral.shown (if DEEP < S.high then BAD else roundTold .run T S S) = _
            by_cases d : DEEP < S.high
            · rw [if_pos d]
              exact bad fun hh => nbnd (by omega) hh.1
            · rw [if_neg d]
              have z := round_told (kind := 2) (c := S) (cr := []) rT rS (bnd (by omega) (by omega)) rfl (fun h => by cases h)
              rw [wS, wT, hTt, hSs]
              exact z
          · have e : kind.toNat = kind.toNat - 3 + 3 := by omega
            rw [e]
            exact bad fun hh => nbnd (by omega) hh.1
    · have tn : RugDNeutral.text c ≠ [] := by
        intro q
        have q2 := text_len c
        rw [q] at q2
        cases c with
        | nil => exact c1 rfl
        | cons a r => cases q2
      rw [if_neg tn, if_neg (show ¬ 66048 < c.length by omega)]
      have ec : cparse c = parse c := if_neg c1
      rw [ec]
      cases e3 : parse c with
      | none => rw [parse_none bc e3]; rfl
      | some g =>
      obtain ⟨C, hC, rC, rfl⟩ := parse_some e3
      rw [hC]
      simp only
      obtain ⟨C1, _⟩ := right_iff.mp rC
      have wC := enc_wide rC
      have hCc := enc_high rC
      have ne : (enc C).isEmpty = false := by
        cases e : enc C with
        | nil => rw [e] at hCc; have z : 0 = C.high := hCc; omega
        | cons => rfl
      unfold kindAt
      by_cases k0 : kind = 0
      · subst k0
        show RugDNeutral.shown (if DEEP < S.high ∨ C.wide ≠ S.high ∨ C.high ≠ S.high then BAD else roundTold .set T S C) = _
        by_cases d : DEEP < S.high ∨ C.wide ≠ S.high ∨ C.high ≠ S.high
        · rw [if_pos d]
          exact bad fun hh => by
            have r := hh.2
            unfold rightCorner at r
            rw [if_neg (by decide), wC, hCc] at r
            simp only [Bool.and_eq_true, decide_eq_true_eq] at r
            rcases d with d | d | d
            · exact nbnd (by omega) hh.1
            · exact d r.2
            · exact d r.1
        · rw [if_neg d]
          have d' : S.high ≤ 128 ∧ C.wide = S.high ∧ C.high = S.high := by omega
          have z := round_told (kind := 0) (c := C) (cr := enc C) rT rS (bnd (by omega) d'.1) (by
            unfold rightCorner
            rw [if_neg (by decide), wC, hCc, decide_eq_true d'.2.1, decide_eq_true d'.2.2] <;> rfl) (fun _ => ⟨rC, d'.2.1, d'.2.2, rfl⟩)
          rw [wS, wT, hTt, hSs]
          exact z
      · have nr : rightCorner kind (enc C) S.high = false := by
          unfold rightCorner
          rw [if_pos k0, ne]
        have hbad := bad (cr := enc C) (z := ((flat (rug (kk kind) (wideOf (enc S)) (enc S).length (wideOf (enc T)) (enc T).length (enc T) (enc S) (enc C))).length : Int) :: flat (rug (kk kind) (wideOf (enc S)) (enc S).length (wideOf (enc T)) (enc T).length (enc T) (enc S) (enc C))) (fun hh => by rw [nr] at hh; cases hh.2)
        refine Eq.trans ?_ hbad
        by_cases k1 : kind = 1
        · subst k1; rfl
        · by_cases k2 : kind = 2
          · subst k2; rfl
          · have e : kind.toNat = kind.toNat - 3 + 3 := by omega
            rw [e]; rfl
end RM
namespace RM
open Wqbbch
/-! ### colours gathered at their places -/
def firstAt (l : List (Nat × Nat)) (i : Nat) : Option Nat := (l.find? fun x => x.1 == i).map (·.2)
def Alike (l : List (Nat × Nat)) : Prop := ∀ x ∈ l, ∀ y ∈ l, x.1 = y.1 → x.2 = y.2
def gStep (a : Option (Array (Option Nat))) (x : Nat × Nat) : Option (Array (Option Nat)) := match a with
  | none => none
  | some v => match v.getD x.1 none with
    | none => some (v.setIfInBounds x.1 (some x.2))
    | some k => if k = x.2 then some v else none
theorem gathered_eq (n : Nat) (l : List (Nat × Nat)) : gathered n l = l.foldl gStep (some (Array.replicate n none)) := rfl
theorem gStep_none : ∀ l : List (Nat × Nat), l.foldl gStep none = none
  | [] => rfl
  | _ :: r => gStep_none r
theorem firstAt_app (l : List (Nat × Nat)) (x : Nat × Nat) (i : Nat) : firstAt (l ++ [x]) i = (firstAt l i).or (if x.1 = i then some x.2 else none) := by
  unfold firstAt
  rw [List.find?_append]
  cases e : l.find? (fun x => x.1 == i) with
  | some y => rfl
  | none =>
    rw [Option.none_or]
    by_cases c : x.1 = i
    · rw [if_pos c, List.find?_cons_of_pos (by simpa using c)]
      rfl
    · rw [if_neg c, List.find?_cons_of_neg (by simpa using c)]
      rfl
theorem firstAt_mem {l : List (Nat × Nat)} {i c : Nat} (h : firstAt l i = some c) : (i, c) ∈ l := by
  unfold firstAt at h
  cases e : l.find? (fun x => x.1 == i) with
  | none => rw [e] at h; cases h
  | some y =>
    rw [e] at h
    have h1 := List.find?_some e
    have h2 := List.mem_of_find?_eq_some e
    obtain ⟨a, b⟩ := y
    have : a = i := by simpa using h1
    subst this
    cases h
    exact h2
theorem firstAt_none {l : List (Nat × Nat)} {i : Nat} (h : firstAt l i = none) : ∀ x ∈ l, x.1 ≠ i := by
  intro x hx z
  unfold firstAt at h
  rw [Option.map_eq_none_iff, List.find?_eq_none] at h
  exact h x hx (by simpa using z)
theorem getD_set (v : Array (Option Nat)) (i j : Nat) (c : Option Nat) (hi : i < v.size) : (v.setIfInBounds i c).getD j none = if i = j then c else v.getD j none := by
  simp only [Array.getD_eq_getD_getElem?, Array.getElem?_setIfInBounds]
  by_cases e : i = j
  · subst e
    simp [hi]
  · simp [e]
structure GInv (n : Nat) (v : Array (Option Nat)) (l : List (Nat × Nat)) : Prop where
  size : v.size = n
  at_ : ∀ i, i < n → v.getD i none = firstAt l i
  ok : Alike l
theorem gather_go (n : Nat) : ∀ (l2 l1 : List (Nat × Nat)) (v : Array (Option Nat)), GInv n v l1 → (∀ x ∈ l2, x.1 < n) →
    (Alike (l1 ++ l2) → ∃ a, l2.foldl gStep (some v) = some a ∧ GInv n a (l1 ++ l2)) ∧ (¬ Alike (l1 ++ l2) → l2.foldl gStep (some v) = none)
  | [], l1, v, g, _ => by
    rw [List.append_nil]
    exact ⟨fun _ => ⟨v, rfl, g⟩, fun h => absurd g.ok h⟩
  | x :: r, l1, v, g, hx => by
    have hxn : x.1 < n := hx x (List.mem_cons_self ..)
    have hr : ∀ y ∈ r, y.1 < n := fun y hy => hx y (List.mem_cons_of_mem _ hy)
    have as : l1 ++ x :: r = (l1 ++ [x]) ++ r := by simp
    rw [as]
    show (Alike ((l1 ++ [x]) ++ r) → ∃ a, r.foldl gStep (gStep (some v) x) = some a ∧ _) ∧ (_ → r.foldl gStep (gStep (some v) x) = none)
    have e := g.at_ x.1 hxn
    cases c : firstAt l1 x.1 with
    | none =>
      rw [c] at e
      have st : gStep (some v) x = some (v.setIfInBounds x.1 (some x.2)) := by
        unfold gStep
        simp only [e]
      rw [st]
      refine gather_go n r (l1 ++ [x]) _ ⟨?_, ?_, ?_⟩ hr
      · rw [Array.size_setIfInBounds]; exact g.size
      · intro i hi
        rw [getD_set _ _ _ _ (by rw [g.size]; exact hxn), firstAt_app, g.at_ i hi]
        by_cases z : x.1 = i
        · subst z
          rw [if_pos rfl, c, if_pos rfl]
          rfl
        · rw [if_neg z, if_neg z, Option.or_none]
      · intro y hy y2 hy2 hh
        have ne := firstAt_none c
        rcases List.mem_append.mp hy with hy | hy
        · rcases List.mem_append.mp hy2 with hy2 | hy2
          · exact g.ok y hy y2 hy2 hh
          · rw [List.mem_singleton.mp hy2] at hh ⊢
            exact absurd hh (ne y hy)
        · rw [List.mem_singleton.mp hy] at hh ⊢
          rcases List.mem_append.mp hy2 with hy2 | hy2
          · exact absurd hh.symm (ne y2 hy2)
          · rw [List.mem_singleton.mp hy2]
    | some k =>
      rw [c] at e
      have mem := firstAt_mem c
      by_cases z : k = x.2
      · have st : gStep (some v) x = some v := by
          unfold gStep
          simp only [e]
          exact if_pos z
        rw [st]
        subst z
        refine gather_go n r (l1 ++ [x]) v ⟨g.size, ?_, ?_⟩ hr
        · intro i hi
          rw [firstAt_app, g.at_ i hi]
          by_cases w : x.1 = i
          · subst w
            rw [c]; rfl
          · rw [if_neg w, Option.or_none]
        · intro y hy y2 hy2 hh
          have up : ∀ y ∈ l1 ++ [x], y ∈ l1 := by
            intro y hy
            rcases List.mem_append.mp hy with hy | hy
            · exact hy
            · rw [List.mem_singleton.mp hy]; exact mem
          exact g.ok y (up y hy) y2 (up y2 hy2) hh
      · have st : gStep (some v) x = none := by
          unfold gStep
          simp only [e]
          exact if_neg z
        rw [st, gStep_none]
        refine ⟨fun al => ?_, fun _ => rfl⟩
        refine absurd ?_ z
        exact al (x.1, k) (by simp [mem]) x (by simp) rfl
/-- gathered, told by its list alone -/
theorem gathered_some {n : Nat} {l : List (Nat × Nat)} (hb : ∀ x ∈ l, x.1 < n) (h : Alike l) : ∃ a, gathered n l = some a ∧ ∀ i, i < n → a.getD i none = firstAt l i := by
  have g0 : GInv n (Array.replicate n none) [] := ⟨by simp, fun i hi => by simp [firstAt, Array.getD_eq_getD_getElem?, hi], fun x hx => by cases hx⟩
  obtain ⟨a, e, g⟩ := (gather_go n l [] _ g0 hb).1 h
  exact ⟨a, (gathered_eq n l).trans e, g.at_⟩
theorem gathered_none {n : Nat} {l : List (Nat × Nat)} (hb : ∀ x ∈ l, x.1 < n) (h : ¬ Alike l) : gathered n l = none := by
  have g0 : GInv n (Array.replicate n none) [] := ⟨by simp, fun i hi => by simp [firstAt, Array.getD_eq_getD_getElem?, hi], fun x hx => by cases hx⟩
  exact (gathered_eq n l).trans ((gather_go n l [] _ g0 hb).2 h)
/-! ### the border's knots -/
theorem at_of_rows {c : Chart} (h : c.right = true) {x y : Nat} (hy : y < c.rows.length) (hx : x < (c.rows[y]).length) : c.at_ x y = (c.rows[y])[x] := by
  unfold Chart.at_
  rw [List.getD_eq_getElem?_getD, List.getD_eq_getElem?_getD, List.getElem?_eq_getElem hy, Option.getD_some, List.getElem?_eq_getElem hx, Option.getD_some]
theorem border_mem {t : Chart} (ht : t.right = true) {k : Kind} {L h : Nat} {p : From × Nat} : p ∈ borderKnots t k L h ↔ ∃ x y, x < t.wide ∧ y < t.high ∧ p = (fromOf k L h (t.wide - 2 * h) (t.high - 2 * h) x y, t.at_ x y) := by
  obtain ⟨_, _, hl, hr⟩ := right_iff.mp ht
  unfold borderKnots
  rw [List.mem_flatMap]
  constructor
  · rintro ⟨⟨r, y⟩, hm, hp⟩
    obtain ⟨_, hy, e⟩ := List.mem_zipIdx hm
    obtain ⟨⟨c, x⟩, hm2, rfl⟩ := List.mem_map.mp hp
    obtain ⟨_, hx, e2⟩ := List.mem_zipIdx hm2
    simp only at hx hy e e2 ⊢
    have hy' : y < t.rows.length := by omega
    have er : r = t.rows[y] := by simpa using e
    subst er
    have hx' : x < (t.rows[y]).length := by omega
    have ec : c = (t.rows[y])[x] := by simpa using e2
    have hw := (hr _ (List.getElem_mem hy')).1
    refine ⟨x, y, by omega, by omega, ?_⟩
    rw [at_of_rows ht hy' hx', ec]
  · rintro ⟨x, y, hx, hy, rfl⟩
    have hy' : y < t.rows.length := by omega
    have hw := (hr _ (List.getElem_mem hy')).1
    have hx' : x < (t.rows[y]).length := by omega
    refine ⟨(t.rows[y], y), List.mk_mem_zipIdx_iff_getElem?.mpr (List.getElem?_eq_getElem hy'), ?_⟩
    refine List.mem_map.mpr ⟨((t.rows[y])[x], x), List.mk_mem_zipIdx_iff_getElem?.mpr (List.getElem?_eq_getElem hx'), ?_⟩
    simp only
    rw [at_of_rows ht hy' hx']
theorem strip_mem {L : Nat} {l : List (From × Nat)} {p : Nat × Nat} : p ∈ stripKnots L l ↔ ∃ i j c, (From.strip i j, c) ∈ l ∧ p = (j * L + i, c) := by
  unfold stripKnots
  rw [List.mem_filterMap]
  constructor
  · rintro ⟨⟨f, c⟩, hm, e⟩
    cases f with
    | field i j => cases e
    | corner i j => cases e
    | strip i j =>
      cases e
      exact ⟨i, j, c, hm, rfl⟩
  · rintro ⟨i, j, c, hm, rfl⟩
    exact ⟨_, hm, rfl⟩
theorem corner_mem {h : Nat} {l : List (From × Nat)} {p : Nat × Nat} : p ∈ cornerKnots h l ↔ ∃ i j c, (From.corner i j, c) ∈ l ∧ p = (j * h + i, c) := by
  unfold cornerKnots
  rw [List.mem_filterMap]
  constructor
  · rintro ⟨⟨f, c⟩, hm, e⟩
    cases f with
    | field i j => cases e
    | strip i j => cases e
    | corner i j =>
      cases e
      exact ⟨i, j, c, hm, rfl⟩
  · rintro ⟨i, j, c, hm, rfl⟩
    exact ⟨_, hm, rfl⟩
end RM
namespace RM
open Wqbbch
/-! ### a strip found: what it is, by the rug's knots alone -/
/-- knots of the border that are the same knot of strip or corner have one colour -/
def OneCol (R : List (List Int)) (k : Kind) (L h W H : Nat) : Prop := ∀ x y x' y', x < W + 2 * h → y < H + 2 * h → x' < W + 2 * h → y' < H + 2 * h → (knot k L h W H x y).1 ≠ 0 → knot k L h W H x y = knot k L h W H x' y' → item R x y = item R x' y'
theorem bi_inj0 : ∀ a, a < 62 → ∀ b, b < 62 → bi a = bi b → a = b := by decide +kernel
theorem at_lt {t : Chart} (h : t.right = true) {x y : Nat} (hx : x < t.wide) (hy : y < t.high) : t.at_ x y < 62 := by
  obtain ⟨_, _, hl, hr⟩ := right_iff.mp h
  have hy' : y < t.rows.length := by omega
  have hw := hr _ (List.getElem_mem hy')
  rw [at_of_rows h hy' (by omega)]
  exact hw.2 _ (List.getElem_mem _)
theorem item_eq {t : Chart} (h : t.right = true) {x y x' y' : Nat} (hx : x < t.wide) (hy : y < t.high) (hx' : x' < t.wide) (hy' : y' < t.high) : item (enc t) x y = item (enc t) x' y' ↔ t.at_ x y = t.at_ x' y' := by
  rw [item_enc h hx hy, item_enc h hx' hy']
  exact ⟨fun e => bi_inj0 _ (at_lt h hx hy) _ (at_lt h hx' hy') e, fun e => by rw [e]⟩
/-- a rug with a depth that leaves a field -/
structure RugOk (t : Chart) (h : Nat) : Prop where
  r : t.right = true
  h1 : 1 ≤ h
  w : 2 * h < t.wide
  v : 2 * h < t.high
theorem told_knot {t : Chart} {h : Nat} (o : RugOk t h) (k : Kind) (L : Nat) {x y : Nat} (hx : x < t.wide) (hy : y < t.high) : told3 (fromOf k L h (t.wide - 2 * h) (t.high - 2 * h) x y) = knot k L h (t.wide - 2 * h) (t.high - 2 * h) x y :=
  knot_is k L h _ _ x y (by have := o.w; omega) (by have := o.v; omega) (by have := o.w; omega) (by have := o.v; omega) o.h1
theorem told_inj : ∀ {a b : From}, told3 a = told3 b → a = b := by
  intro a b h
  cases a <;> cases b <;> simp [told3] at h <;> simp [h]
/-- strip's and corner's knots of the border by their places -/
theorem strip_at {t : Chart} {h : Nat} (o : RugOk t h) {k : Kind} {L : Nat} (hL : 1 ≤ L) {p : Nat × Nat} : p ∈ stripKnots L (borderKnots t k L h) ↔ ∃ x y i j, x < t.wide ∧ y < t.high ∧ knot k L h (t.wide - 2 * h) (t.high - 2 * h) x y = (1, i, j) ∧ p = (j * L + i, t.at_ x y) := by
  rw [strip_mem]
  constructor
  · rintro ⟨i, j, c, hm, rfl⟩
    obtain ⟨x, y, hx, hy, e⟩ := (border_mem o.r).mp hm
    obtain ⟨e1, rfl⟩ := Prod.mk.inj e
    refine ⟨x, y, i, j, hx, hy, ?_, rfl⟩
    rw [← told_knot o k L hx hy]
    exact (congrArg told3 e1).symm
  · rintro ⟨x, y, i, j, hx, hy, e, rfl⟩
    refine ⟨i, j, _, (border_mem o.r).mpr ⟨x, y, hx, hy, ?_⟩, rfl⟩
    rw [← told_knot o k L hx hy] at e
    have e2 : fromOf k L h (t.wide - 2 * h) (t.high - 2 * h) x y = .strip i j := told_inj e
    rw [e2]
theorem corner_at {t : Chart} {h : Nat} (o : RugOk t h) {k : Kind} {L : Nat} {p : Nat × Nat} : p ∈ cornerKnots h (borderKnots t k L h) ↔ ∃ x y i j, x < t.wide ∧ y < t.high ∧ knot k L h (t.wide - 2 * h) (t.high - 2 * h) x y = (2, i, j) ∧ p = (j * h + i, t.at_ x y) := by
  rw [corner_mem]
  constructor
  · rintro ⟨i, j, c, hm, rfl⟩
    obtain ⟨x, y, hx, hy, e⟩ := (border_mem o.r).mp hm
    obtain ⟨e1, rfl⟩ := Prod.mk.inj e
    refine ⟨x, y, i, j, hx, hy, ?_, rfl⟩
    rw [← told_knot o k L hx hy]
    exact (congrArg told3 e1).symm
  · rintro ⟨x, y, i, j, hx, hy, e, rfl⟩
    refine ⟨i, j, _, (border_mem o.r).mpr ⟨x, y, hx, hy, ?_⟩, rfl⟩
    rw [← told_knot o k L hx hy] at e
    have e2 : fromOf k L h (t.wide - 2 * h) (t.high - 2 * h) x y = .corner i j := told_inj e
    rw [e2]
theorem place_inj {L i j i' j' : Nat} (hi : i < L) (hi' : i' < L) (e : j * L + i = j' * L + i') : i = i' ∧ j = j' := by
  have d : ∀ a b, b < L → (a * L + b) / L = a ∧ (a * L + b) % L = b := by
    intro a b hb
    have hL : 0 < L := by omega
    rw [Nat.mul_comm, Nat.mul_add_div hL, Nat.mul_add_mod, Nat.div_eq_of_lt hb, Nat.mod_eq_of_lt hb]
    exact ⟨rfl, rfl⟩
  have a := d j i hi
  have b := d j' i' hi'
  rw [e] at a
  exact ⟨a.2.symm.trans b.2, a.1.symm.trans b.1⟩
theorem place_lt {L h i j : Nat} (hi : i < L) (hj : j < h) : j * L + i < L * h := by
  have : (j + 1) * L ≤ h * L := Nat.mul_le_mul_right _ hj
  rw [Nat.mul_comm L h]
  rw [Nat.succ_mul] at this
  omega
theorem alike_strip {t : Chart} {h : Nat} (o : RugOk t h) {k : Kind} {L : Nat} (hL : 1 ≤ L) : (Alike (stripKnots L (borderKnots t k L h)) ∧ Alike (cornerKnots h (borderKnots t k L h))) ↔ OneCol (enc t) k L h (t.wide - 2 * h) (t.high - 2 * h) := by
  have ow := o.w
  have ov := o.v
  constructor
  · rintro ⟨a, b⟩ x y x' y' hx hy hx' hy' n0 e
    have hx : x < t.wide := by omega
    have hy : y < t.high := by omega
    have hx' : x' < t.wide := by omega
    have hy' : y' < t.high := by omega
    rw [item_eq o.r hx hy hx' hy']
    have I := knot_in k (L := L) (h := h) (W := t.wide - 2 * h) (H := t.high - 2 * h) (x := x) (y := y) (by omega) (by omega) hL
    cases q : knot k L h (t.wide - 2 * h) (t.high - 2 * h) x y with
    | mk q1 r =>
    obtain ⟨i, j⟩ := r
    rw [q] at I n0 e
    have h3 : q1 = 1 ∨ q1 = 2 := by
      have z : q1 ≤ 2 := I.a
      have z2 : q1 ≠ 0 := n0
      omega
    rcases h3 with rfl | rfl
    · exact a _ ((strip_at o hL).mpr ⟨x, y, i, j, hx, hy, q, rfl⟩) _ ((strip_at o hL).mpr ⟨x', y', i, j, hx', hy', e.symm, rfl⟩) rfl
    · exact b _ ((corner_at o).mpr ⟨x, y, i, j, hx, hy, q, rfl⟩) _ ((corner_at o).mpr ⟨x', y', i, j, hx', hy', e.symm, rfl⟩) rfl
  · intro a
    refine ⟨?_, ?_⟩
    · intro p hp p' hp' e
      obtain ⟨x, y, i, j, hx, hy, q, rfl⟩ := (strip_at o hL).mp hp
      obtain ⟨x', y', i', j', hx', hy', q', rfl⟩ := (strip_at o hL).mp hp'
      have I := knot_in k (L := L) (h := h) (W := t.wide - 2 * h) (H := t.high - 2 * h) (x := x) (y := y) (by omega) (by omega) hL
      have I' := knot_in k (L := L) (h := h) (W := t.wide - 2 * h) (H := t.high - 2 * h) (x := x') (y := y') (by omega) (by omega) hL
      rw [q] at I
      rw [q'] at I'
      obtain ⟨z1, z2⟩ := place_inj (I.s rfl).1 (I'.s rfl).1 e
      refine (item_eq o.r hx hy hx' hy').mp (a x y x' y' (by omega) (by omega) (by omega) (by omega) (by rw [q]; exact Nat.succ_ne_zero _) ?_)
      rw [q, q']
      simp only at z1 z2
      rw [z1, z2]
    · intro p hp p' hp' e
      obtain ⟨x, y, i, j, hx, hy, q, rfl⟩ := (corner_at o).mp hp
      obtain ⟨x', y', i', j', hx', hy', q', rfl⟩ := (corner_at o).mp hp'
      have I := knot_in k (L := L) (h := h) (W := t.wide - 2 * h) (H := t.high - 2 * h) (x := x) (y := y) (by omega) (by omega) hL
      have I' := knot_in k (L := L) (h := h) (W := t.wide - 2 * h) (H := t.high - 2 * h) (x := x') (y := y') (by omega) (by omega) hL
      rw [q] at I
      rw [q'] at I'
      obtain ⟨z1, z2⟩ := place_inj (I.c rfl).2.1 (I'.c rfl).2.1 e
      refine (item_eq o.r hx hy hx' hy').mp (a x y x' y' (by omega) (by omega) (by omega) (by omega) (by rw [q]; exact Nat.succ_ne_zero _) ?_)
      rw [q, q']
      simp only at z1 z2
      rw [z1, z2]
theorem strip_bound {t : Chart} {h : Nat} (o : RugOk t h) {k : Kind} {L : Nat} (hL : 1 ≤ L) : ∀ p ∈ stripKnots L (borderKnots t k L h), p.1 < L * h := by
  intro p hp
  have ow := o.w
  have ov := o.v
  obtain ⟨x, y, i, j, hx, hy, q, rfl⟩ := (strip_at o hL).mp hp
  have I := knot_in k (L := L) (h := h) (W := t.wide - 2 * h) (H := t.high - 2 * h) (x := x) (y := y) (by omega) (by omega) hL
  rw [q] at I
  exact place_lt (I.s rfl).1 (I.s rfl).2
theorem corner_bound {t : Chart} {h : Nat} (o : RugOk t h) {k : Kind} {L : Nat} (hL : 1 ≤ L) : ∀ p ∈ cornerKnots h (borderKnots t k L h), p.1 < h * h := by
  intro p hp
  have ow := o.w
  have ov := o.v
  obtain ⟨x, y, i, j, hx, hy, q, rfl⟩ := (corner_at o).mp hp
  have I := knot_in k (L := L) (h := h) (W := t.wide - 2 * h) (H := t.high - 2 * h) (x := x) (y := y) (by omega) (by omega) hL
  rw [q] at I
  exact place_lt (I.c rfl).2.1 (I.c rfl).2.2
/-- rows of a strip, each of its knots in the colour that the border's knots have, or colour a -/
structure IsStrip (R : List (List Int)) (k : Kind) (L h W H : Nat) (S : List (List Int)) : Prop where
  high : S.length = h
  wide : ∀ r ∈ S, r.length = L
  used : ∀ x y i j, x < W + 2 * h → y < H + 2 * h → knot k L h W H x y = (1, i, j) → item S i j = item R x y
  free : ∀ i j, i < L → j < h → (∀ x y, x < W + 2 * h → y < H + 2 * h → knot k L h W H x y ≠ (1, i, j)) → item S i j = 97
theorem item_ext {S T : List (List Int)} {L h : Nat} (h1 : S.length = h) (h2 : ∀ r ∈ S, r.length = L) (h3 : T.length = h) (h4 : ∀ r ∈ T, r.length = L) (e : ∀ i j, i < L → j < h → item S i j = item T i j) : S = T := by
  refine List.ext_getElem (h1.trans h3.symm) fun j hj hj' => ?_
  have a := h2 _ (List.getElem_mem hj)
  have b := h4 _ (List.getElem_mem hj')
  refine List.ext_getElem (a.trans b.symm) fun i hi hi' => ?_
  have z := e i j (by omega) (by omega)
  unfold item at z
  rw [List.getD_eq_getElem?_getD, List.getD_eq_getElem?_getD, List.getD_eq_getElem?_getD, List.getD_eq_getElem?_getD, List.getElem?_eq_getElem hj, List.getElem?_eq_getElem hj', Option.getD_some, Option.getD_some, List.getElem?_eq_getElem hi, List.getElem?_eq_getElem hi', Option.getD_some, Option.getD_some] at z
  exact z
theorem IsStrip.one {R S T : List (List Int)} {k : Kind} {L h W H : Nat} (a : IsStrip R k L h W H S) (b : IsStrip R k L h W H T) : S = T := by
  refine item_ext a.high a.wide b.high b.wide fun i j hi hj => ?_
  by_cases c : ∃ x y, x < W + 2 * h ∧ y < H + 2 * h ∧ knot k L h W H x y = (1, i, j)
  · obtain ⟨x, y, hx, hy, e⟩ := c
    rw [a.used x y i j hx hy e, b.used x y i j hx hy e]
  · have n : ∀ x y, x < W + 2 * h → y < H + 2 * h → knot k L h W H x y ≠ (1, i, j) := fun x y hx hy e => c ⟨x, y, hx, hy, e⟩
    rw [a.free i j hi hj n, b.free i j hi hj n]
theorem item_by {w v : Nat} {f : Nat → Nat → Nat} {i j : Nat} (hi : i < w) (hj : j < v) : item (enc (Chart.by_ w v f)) i j = bi (f i j) := by
  unfold item enc encRows Chart.by_
  simp only [List.getD_eq_getElem?_getD, List.getElem?_map, List.getElem?_range hj, List.getElem?_range hi, Option.map_some, Option.getD_some]
theorem strip_no {t : Chart} {h : Nat} (o : RugOk t h) {k : Kind} {L : Nat} (hL : 1 ≤ L) (n : ¬ (fits k L h (t.wide - 2 * h) (t.high - 2 * h) = true ∧ OneCol (enc t) k L h (t.wide - 2 * h) (t.high - 2 * h))) : stripOf t k L h = none := by
  unfold stripOf
  by_cases c : fits k L h (t.wide - 2 * h) (t.high - 2 * h) = true
  · rw [if_pos c]
    have n2 : ¬ (Alike (stripKnots L (borderKnots t k L h)) ∧ Alike (cornerKnots h (borderKnots t k L h))) := fun z => n ⟨c, (alike_strip o hL).mp z⟩
    simp only
    by_cases a : Alike (stripKnots L (borderKnots t k L h))
    · rw [gathered_none (corner_bound o hL) fun z => n2 ⟨a, z⟩]
      split
      · rename_i z; cases z
      · rfl
    · rw [gathered_none (strip_bound o hL) a]
  · rw [if_neg c]
theorem strip_yes {t : Chart} {h : Nat} (o : RugOk t h) {k : Kind} {L : Nat} (hL : 1 ≤ L) (hf : fits k L h (t.wide - 2 * h) (t.high - 2 * h) = true) (hc : OneCol (enc t) k L h (t.wide - 2 * h) (t.high - 2 * h)) :
    ∃ u, stripOf t k L h = some u ∧ IsStrip (enc t) k L h (t.wide - 2 * h) (t.high - 2 * h) (enc u) := by
  have ow := o.w
  have ov := o.v
  obtain ⟨a1, a2⟩ := (alike_strip o hL).mpr hc
  obtain ⟨v, ev, hv⟩ := gathered_some (strip_bound o hL) a1
  obtain ⟨v2, ev2, _⟩ := gathered_some (corner_bound o hL) a2
  refine ⟨Chart.by_ L h (fun (x y : Nat) => (v.getD (y * L + x) none).getD 0), ?_, ?_⟩
  · unfold stripOf
    rw [if_pos hf]
    simp only [ev, ev2]
  · refine ⟨?_, ?_, ?_, ?_⟩
    · simp [enc, encRows, Chart.by_]
    · intro r hr
      simp only [enc, encRows, Chart.by_, List.map_map, List.mem_map] at hr
      obtain ⟨y, _, rfl⟩ := hr
      simp
    · intro x y i j hx hy e
      have hx : x < t.wide := by omega
      have hy : y < t.high := by omega
      have I := knot_in k (L := L) (h := h) (W := t.wide - 2 * h) (H := t.high - 2 * h) (x := x) (y := y) (by omega) (by omega) hL
      rw [e] at I
      obtain ⟨hi, hj⟩ := I.s rfl
      rw [item_by hi hj, item_enc o.r hx hy, hv _ (place_lt hi hj)]
      have m : (j * L + i, t.at_ x y) ∈ stripKnots L (borderKnots t k L h) := (strip_at o hL).mpr ⟨x, y, i, j, hx, hy, e, rfl⟩
      cases f : firstAt (stripKnots L (borderKnots t k L h)) (j * L + i) with
      | none => exact absurd rfl (firstAt_none f _ m)
      | some c =>
        have := a1 _ (firstAt_mem f) _ m rfl
        simp only at this
        rw [this]
        rfl
    · intro i j hi hj n
      rw [item_by hi hj, hv _ (place_lt hi hj)]
      cases f : firstAt (stripKnots L (borderKnots t k L h)) (j * L + i) with
      | none => rfl
      | some c =>
        exfalso
        obtain ⟨x, y, i', j', hx, hy, q, e⟩ := (strip_at o hL).mp (firstAt_mem f)
        have I := knot_in k (L := L) (h := h) (W := t.wide - 2 * h) (H := t.high - 2 * h) (x := x) (y := y) (by omega) (by omega) hL
        rw [q] at I
        have e1 : j * L + i = j' * L + i' := congrArg Prod.fst e
        obtain ⟨z1, z2⟩ := place_inj hi (I.s rfl).1 e1
        subst z1 z2
        exact n x y (by omega) (by omega) q
/-! ### the corner of kind 0, and the field within -/
theorem corner_iff {t : Chart} {h : Nat} (o : RugOk t h) : (gathered (h * h) (cornerKnots h (borderKnots t .set 1 h))).isSome = true ↔
    ∀ x y i j, x < t.wide → y < t.high → knot .set 1 h (t.wide - 2 * h) (t.high - 2 * h) x y = (2, i, j) → item (enc t) x y = item (enc t) i j := by
  have ow := o.w
  have ov := o.v
  have o1 := o.h1
  have cor : ∀ i j, i < h → j < h → knot .set 1 h (t.wide - 2 * h) (t.high - 2 * h) i j = (2, i, j) := by
    intro i j hi hj
    unfold knot
    rw [if_neg (by omega)]
    have e : seen h (t.wide - 2 * h) (t.high - 2 * h) i j = (i, j) := if_pos (by omega)
    simp only [e]
    rw [if_pos hi]
  constructor
  · intro a x y i j hx hy e
    by_cases al : Alike (cornerKnots h (borderKnots t .set 1 h))
    · have I := knot_in .set (L := 1) (h := h) (W := t.wide - 2 * h) (H := t.high - 2 * h) (x := x) (y := y) (by omega) (by omega) (Nat.le_refl _)
      rw [e] at I
      obtain ⟨_, hi, hj⟩ := I.c rfl
      have hi : i < h := hi
      have hj : j < h := hj
      rw [item_eq o.r hx hy (by omega) (by omega)]
      exact al _ ((corner_at o).mpr ⟨x, y, i, j, hx, hy, e, rfl⟩) _ ((corner_at o).mpr ⟨i, j, i, j, by omega, by omega, cor i j hi hj, rfl⟩) rfl
    · rw [gathered_none (corner_bound o (Nat.le_refl 1)) al] at a
      cases a
  · intro a
    have al : Alike (cornerKnots h (borderKnots t .set 1 h)) := by
      intro p hp p' hp' e
      obtain ⟨x, y, i, j, hx, hy, q, rfl⟩ := (corner_at o).mp hp
      obtain ⟨x', y', i', j', hx', hy', q', rfl⟩ := (corner_at o).mp hp'
      have I := knot_in .set (L := 1) (h := h) (W := t.wide - 2 * h) (H := t.high - 2 * h) (x := x) (y := y) (by omega) (by omega) (Nat.le_refl _)
      have I' := knot_in .set (L := 1) (h := h) (W := t.wide - 2 * h) (H := t.high - 2 * h) (x := x') (y := y') (by omega) (by omega) (Nat.le_refl _)
      rw [q] at I
      rw [q'] at I'
      obtain ⟨z1, z2⟩ := place_inj (I.c rfl).2.1 (I'.c rfl).2.1 e
      simp only at z1 z2
      subst z1 z2
      exact (item_eq o.r hx hy hx' hy').mp ((a x y _ _ hx hy q).trans (a x' y' _ _ hx' hy' q').symm)
    obtain ⟨v, ev, _⟩ := gathered_some (corner_bound o (Nat.le_refl 1)) al
    rw [ev]
    rfl
/-- a cut of rows -/
def cutRows (R : List (List Int)) (x y w h : Nat) : List (List Int) := (List.range h).map fun j => (List.range w).map fun i => item R (x + i) (y + j)
theorem cut_is {t : Chart} (h : t.right = true) {x y w v : Nat} (hx : x + w ≤ t.wide) (hy : y + v ≤ t.high) : enc (t.cutOut x y w v) = cutRows (enc t) x y w v := by
  unfold Chart.cutOut Chart.by_ enc encRows cutRows
  rw [List.map_map]
  refine List.map_congr_left fun j hj => ?_
  rw [List.mem_range] at hj
  show ((List.range w).map _).map bi = _
  rw [List.map_map]
  refine List.map_congr_left fun i hi => ?_
  rw [List.mem_range] at hi
  exact (item_enc h (by omega) (by omega)).symm
theorem cut_slices {R : List (List Int)} {x y w v n : Nat} (hr : ∀ r ∈ R, r.length = n) (hx : x + w ≤ n) (hy : y + v ≤ R.length) : cutRows R x y w v = ((R.drop y).take v).map fun r => (r.drop x).take w := by
  unfold cutRows
  refine List.ext_getElem ?_ fun j hj hj' => ?_
  · simp; omega
  · have hjv : j < v := by simpa using hj
    have hjR : y + j < R.length := by omega
    have hn := hr _ (List.getElem_mem hjR)
    simp only [List.getElem_map, List.getElem_range, List.getElem_take, List.getElem_drop]
    refine List.ext_getElem ?_ fun i hi hi' => ?_
    · simp; omega
    · have hiw : i < w := by simpa using hi
      simp only [List.getElem_map, List.getElem_range, List.getElem_take, List.getElem_drop]
      unfold item
      rw [List.getD_eq_getElem?_getD, List.getD_eq_getElem?_getD, List.getElem?_eq_getElem hjR, Option.getD_some, List.getElem?_eq_getElem (by omega), Option.getD_some]
end RM
namespace RM
open Wqbbch
/-! ### from, off, corner, found, sizes: what is due, said with the program's words -/
/-- h is a depth, and 2 h less than the rug's width and height -/
def rugOk (R : List (List Int)) (h : Int) : Bool := (decide (1 ≤ h) && decide (h ≤ 128)) && (decide (2 * h < (wideOf R : Nat)) && decide (2 * h < (R.length : Nat)))
theorem rug_long {t : List Int} {h : Nat} (f : Chart → Ans) (c : 66048 < t.length) : RugDNeutral.shown (ofRug (RugDNeutral.text t) h f) = [-2] := by
  unfold ofRug ofChart
  have eT : TEXT = 66048 := rfl
  rw [text_len, eT, if_pos c]
  rfl
theorem rug_wrong {t : List Int} {h : Nat} (bt : bytesOk t) (f : Chart → Ans) (c : ¬ 66048 < t.length) (e : parse t = none) : RugDNeutral.shown (ofRug (RugDNeutral.text t) h f) = [-6] := by
  unfold ofRug ofChart
  have eT : TEXT = 66048 := rfl
  rw [text_len, eT, if_neg c, parse_none bt e]
  rfl
theorem rug_right {t : List Int} {h : Int} (f : Chart → Ans) (c : ¬ 66048 < t.length) {R : List (List Int)} (e : parse t = some R) :
    ∃ T : Chart, T.right = true ∧ R = enc T ∧ (rugOk R h = false → RugDNeutral.shown (ofRug (RugDNeutral.text t) h.toNat f) = [-1]) ∧ (rugOk R h = true → RugOk T h.toNat ∧ RugDNeutral.shown (ofRug (RugDNeutral.text t) h.toNat f) = RugDNeutral.shown (f T)) := by
  obtain ⟨T, hT, rT, rfl⟩ := parse_some e
  refine ⟨T, rT, rfl, ?_⟩
  unfold ofRug ofChart
  have eT : TEXT = 66048 := rfl
  rw [text_len, eT, if_neg c, hT]
  simp only
  have w := enc_wide rT
  have v := enc_high rT
  have eD : DEEP = 128 := rfl
  have cc : (rugOk (enc T) h = true) ↔ ¬ (deepOk h.toNat = false ∨ T.wide ≤ 2 * h.toNat ∨ T.high ≤ 2 * h.toNat) := by
    simp only [rugOk, deepOk, ← Bool.not_eq_true, Bool.and_eq_true, decide_eq_true_eq, w, v]
    omega
  constructor
  · intro d
    rw [if_pos (Decidable.not_not.mp fun z => by rw [cc.mpr z] at d; cases d)]
    rfl
  · intro d
    rw [if_neg (cc.mp d)]
    have d' := d
    simp only [rugOk, Bool.and_eq_true, decide_eq_true_eq, w, v] at d'
    exact ⟨⟨rT, by omega, by omega, by omega⟩, rfl⟩
/-- how many, and they -/
def wholeM (rows : List (List Int)) : List Int := ((flat rows).length : Int) :: flat rows
theorem shown_wholeM (c : Chart) : RugDNeutral.shown (whole c) = wholeM (enc c) := shown_whole c
def offM (h : Int) (t : List Int) : List Int := if 66048 < t.length then [-2] else match parse t with
  | none => [-6]
  | some R => if rugOk R h = true then wholeM (cutRows R h.toNat h.toNat (wideOf R - 2 * h.toNat) (R.length - 2 * h.toNat)) else [-1]
theorem off_is {h : Int} {t : List Int} (bt : bytesOk t) : PyWqbbch.off h t = offM h t := by
  show RugDNeutral.shown (ofRug (RugDNeutral.text t) h.toNat fun c => whole (c.within h.toNat)) = _
  unfold offM
  by_cases c : 66048 < t.length
  · rw [if_pos c, rug_long _ c]
  rw [if_neg c]
  cases e : parse t with
  | none => rw [rug_wrong bt _ c e]
  | some R =>
  obtain ⟨T, rT, eR, h1, h2⟩ := rug_right (h := h) (fun c => whole (c.within h.toNat)) c e
  simp only
  cases d : rugOk R h with
  | false =>
    rw [h1 d]
    rfl
  | true =>
    obtain ⟨o, q⟩ := h2 d
    have ow := o.w
    have ov := o.v
    rw [q, shown_wholeM, if_pos rfl, eR, enc_wide rT, enc_high rT]
    unfold Chart.within
    rw [cut_is rT (by omega) (by omega)]
/-- the four corners are alike, as kind 0 has them -/
def CornersOne (R : List (List Int)) (h : Nat) : Prop := ∀ x y i j, x < wideOf R → y < R.length → knot .set 1 h (wideOf R - 2 * h) (R.length - 2 * h) x y = (2, i, j) → item R x y = item R i j
/-- corner: what is due where the rug and the depth are right -/
theorem corner_due {h : Int} {t : List Int} {R : List (List Int)} (c : ¬ 66048 < t.length) (e : parse t = some R) (ok : rugOk R h = true) :
    (CornersOne R h.toNat → PyWqbbch.corner h t = wholeM (cutRows R 0 0 h.toNat h.toNat)) ∧ (¬ CornersOne R h.toNat → PyWqbbch.corner h t = [-5]) := by
  obtain ⟨T, rT, eR, _, h2⟩ := rug_right (h := h) (fun c => match cornerOf c h.toNat with
    | none => NONE
    | some u => whole u) c e
  obtain ⟨o, q⟩ := h2 ok
  have ow := o.w
  have ov := o.v
  have ci := corner_iff o
  subst eR
  have cc : CornersOne (enc T) h.toNat ↔ (gathered (h.toNat * h.toNat) (cornerKnots h.toNat (borderKnots T .set 1 h.toNat))).isSome = true := by
    rw [ci]
    unfold CornersOne
    rw [enc_wide rT, enc_high rT]
  have q' : PyWqbbch.corner h t = RugDNeutral.shown (match cornerOf T h.toNat with
    | none => NONE
    | some u => whole u) := q
  constructor
  · intro z
    rw [q']
    unfold cornerOf
    rw [if_pos (cc.mp z)]
    simp only
    rw [shown_wholeM, cut_is rT (by omega) (by omega)]
  · intro z
    rw [q']
    unfold cornerOf
    rw [if_neg fun y => z (cc.mpr y)]
    rfl
theorem corner_long {h : Int} {t : List Int} (c : 66048 < t.length) : PyWqbbch.corner h t = [-2] := rug_long _ c
theorem corner_wrong {h : Int} {t : List Int} (bt : bytesOk t) (c : ¬ 66048 < t.length) (e : parse t = none) : PyWqbbch.corner h t = [-6] := rug_wrong bt _ c e
theorem corner_bad {h : Int} {t : List Int} {R : List (List Int)} (c : ¬ 66048 < t.length) (e : parse t = some R) (ok : rugOk R h = false) : PyWqbbch.corner h t = [-1] := by
  obtain ⟨T, rT, eR, h1, _⟩ := rug_right (h := h) (fun c => match cornerOf c h.toNat with
    | none => NONE
    | some u => whole u) c e
  exact h1 ok
/-! ### found -/
/-- a strip so long makes the border -/
def Makes (R : List (List Int)) (k : Kind) (h L : Nat) : Prop := fits k L h (wideOf R - 2 * h) (R.length - 2 * h) = true ∧ OneCol R k L h (wideOf R - 2 * h) (R.length - 2 * h)
theorem found_long {h kind : Int} {t : List Int} (c : 66048 < t.length) : PyWqbbch.found h kind t = [-2] := rug_long _ c
theorem found_wrong {h kind : Int} {t : List Int} (bt : bytesOk t) (c : ¬ 66048 < t.length) (e : parse t = none) : PyWqbbch.found h kind t = [-6] := rug_wrong bt _ c e
def foundF (kind h : Nat) : Chart → Ans := fun c => match kindAt kind with
    | none => BAD
    | some k => (match foundIn c k h with
      | none => NONE
      | some u => whole u)
theorem found_eq {h kind : Int} {t : List Int} : PyWqbbch.found h kind t = RugDNeutral.shown (ofRug (RugDNeutral.text t) h.toNat (foundF kind.toNat h.toNat)) := by
  show RugDNeutral.shown (answer (.found (RugDNeutral.text t) h.toNat kind.toNat)) = _
  unfold answer
  dsimp only
  refine congrArg (fun F => RugDNeutral.shown (ofRug (RugDNeutral.text t) h.toNat F)) (funext fun c => ?_)
  unfold foundF
  cases kindAt kind.toNat with
  | none => rfl
  | some k =>
    dsimp only
    cases foundIn c k h.toNat <;> rfl
theorem found_bad {h kind : Int} {t : List Int} {R : List (List Int)} (c : ¬ 66048 < t.length) (e : parse t = some R) (ok : rugOk R h = false) : PyWqbbch.found h kind t = [-1] := by
  obtain ⟨T, rT, eR, h1, _⟩ := rug_right (h := h) (foundF kind.toNat h.toNat) c e
  rw [found_eq]
  exact h1 ok
theorem kind_at {kind : Int} (h0 : 0 ≤ kind) (h2 : kind ≤ 2) : kindAt kind.toNat = some (kk kind) := by
  have e : kind = 0 ∨ kind = 1 ∨ kind = 2 := by omega
  rcases e with rfl | rfl | rfl <;> rfl
theorem kind_none {kind : Int} (h2 : ¬ kind ≤ 2) : kindAt kind.toNat = none := by
  have e : kind.toNat = kind.toNat - 3 + 3 := by omega
  rw [e]
  rfl
theorem found_kind {h kind : Int} {t : List Int} {R : List (List Int)} (c : ¬ 66048 < t.length) (e : parse t = some R) (hk : ¬ kind ≤ 2) : PyWqbbch.found h kind t = [-1] := by
  cases ok : rugOk R h with
  | false => exact found_bad c e ok
  | true =>
    obtain ⟨T, rT, eR, _, h2⟩ := rug_right (h := h) (foundF kind.toNat h.toNat) c e
    obtain ⟨o, q⟩ := h2 ok
    have q' : PyWqbbch.found h kind t = RugDNeutral.shown (foundF kind.toNat h.toNat T) := found_eq.trans q
    rw [q']
    unfold foundF
    rw [kind_none hk]
    rfl
theorem range_first {α : Type} (f : Nat → Option α) (n L : Nat) (hL : L < n) {u : α} (h : f L = some u) (before : ∀ i, i < L → f i = none) : (List.range n).findSome? f = some u := by
  have e : List.range n = List.range L ++ L :: ((List.range (n - L - 1)).map (L + 1 + ·)) := by
    have a : n = L + (n - L) := by omega
    have b : n - L = (n - L - 1) + 1 := by omega
    conv => lhs; rw [a, List.range_add, b, List.range_succ_eq_map]
    simp only [List.map_cons, List.map_map, Nat.add_zero]
    congr 2
    refine List.map_congr_left fun i _ => ?_
    show L + (i + 1) = L + 1 + i
    omega
  rw [e, List.findSome?_append]
  have z : (List.range L).findSome? f = none := by
    rw [List.findSome?_eq_none_iff]
    intro i hi
    exact before i (List.mem_range.mp hi)
  rw [z, Option.none_or, List.findSome?_cons, h]
theorem found_yes {h kind : Int} {t : List Int} {R S : List (List Int)} {L : Nat} (c : ¬ 66048 < t.length) (e : parse t = some R) (ok : rugOk R h = true) (k0 : 0 ≤ kind) (k2 : kind ≤ 2) (l1 : 1 ≤ L) (l2 : L ≤ 512)
    (m : Makes R (kk kind) h.toNat L) (least : ∀ i, 1 ≤ i → i < L → ¬ Makes R (kk kind) h.toNat i) (s : IsStrip R (kk kind) L h.toNat (wideOf R - 2 * h.toNat) (R.length - 2 * h.toNat) S) : PyWqbbch.found h kind t = wholeM S := by
  obtain ⟨T, rT, eR, _, h2⟩ := rug_right (h := h) (foundF kind.toNat h.toNat) c e
  obtain ⟨o, q⟩ := h2 ok
  have q' : PyWqbbch.found h kind t = RugDNeutral.shown (foundF kind.toNat h.toNat T) := found_eq.trans q
  subst eR
  unfold Makes at m least
  rw [enc_wide rT, enc_high rT] at m s least
  obtain ⟨u, eu, su⟩ := strip_yes o l1 m.1 m.2
  have fi : foundIn T (kk kind) h.toNat = some u := by
    unfold foundIn
    refine range_first _ (SIDE + 1) L (by have : SIDE = 512 := rfl; omega) ?_ fun i hi => ?_
    · rw [if_neg (by omega), eu]
    · by_cases i0 : i = 0
      · rw [if_pos i0]
      · rw [if_neg i0]
        exact strip_no o (by omega) (least i (by omega) hi)
  rw [q']
  unfold foundF
  rw [kind_at k0 k2]
  simp only
  rw [fi]
  simp only
  rw [shown_wholeM, s.one su]
theorem found_no {h kind : Int} {t : List Int} {R : List (List Int)} (c : ¬ 66048 < t.length) (e : parse t = some R) (ok : rugOk R h = true) (k0 : 0 ≤ kind) (k2 : kind ≤ 2)
    (no : ∀ L, 1 ≤ L → L ≤ 512 → ¬ Makes R (kk kind) h.toNat L) : PyWqbbch.found h kind t = [-5] := by
  obtain ⟨T, rT, eR, _, h2⟩ := rug_right (h := h) (foundF kind.toNat h.toNat) c e
  obtain ⟨o, q⟩ := h2 ok
  have q' : PyWqbbch.found h kind t = RugDNeutral.shown (foundF kind.toNat h.toNat T) := found_eq.trans q
  subst eR
  unfold Makes at no
  rw [enc_wide rT, enc_high rT] at no
  have fi : foundIn T (kk kind) h.toNat = none := by
    unfold foundIn
    rw [List.findSome?_eq_none_iff]
    intro i hi
    have hi : i < SIDE + 1 := List.mem_range.mp hi
    have eS : SIDE = 512 := rfl
    by_cases i0 : i = 0
    · rw [if_pos i0]
    · rw [if_neg i0]
      exact strip_no o (by omega) (no i (by omega) (by omega))
  rw [q']
  unfold foundF
  rw [kind_at k0 k2]
  simp only
  rw [fi]
  rfl
/-! ### from -/
def fromM (kind : Int) (L h W H x y : Nat) : List Int := if inB kind L h W H = true then (if comesOut kind L h W H = true then (if x < W + 2 * h ∧ y < H + 2 * h then [0, ((knot (kk kind) L h W H x y).1 : Nat), ((knot (kk kind) L h W H x y).2.1 : Nat), ((knot (kk kind) L h W H x y).2.2 : Nat)] else [-4]) else [-3]) else [-1]
theorem bounds_iff {L h W H : Nat} : (one L = true ∧ deepOk h = true ∧ one W = true ∧ one H = true) ↔ ((decide (1 ≤ h) && decide (h ≤ 128)) && (sideI L && (sideI W && sideI H))) = true := by
  simp only [one, deepOk, sideI, Bool.and_eq_true, decide_eq_true_eq]
  have a : SIDE = 512 := rfl
  have b : DEEP = 128 := rfl
  omega
theorem from_is {kind : Int} {L h W H x y : Nat} (k0 : 0 ≤ kind) : PyWqbbch.from_of kind L h W H x y = fromM kind L h W H x y := by
  show RugDNeutral.shown (answer (.from_ kind.toNat L h W H x y)) = _
  unfold answer
  dsimp only
  unfold ofKind fromM
  by_cases hk : kind ≤ 2
  · rw [kind_at k0 hk]
    simp only
    have ib : inB kind L h W H = ((decide (1 ≤ h) && decide (h ≤ 128)) && (sideI L && (sideI W && sideI H))) := by
      unfold inB
      rw [decide_eq_true hk, Bool.true_and]
    rw [ib, comes_fits]
    by_cases c : one L = true ∧ deepOk h = true ∧ one W = true ∧ one H = true
    · rw [if_pos c, if_pos (bounds_iff.mp c)]
      cases d : comesOut kind L h W H with
      | false => rfl
      | true =>
        show RugDNeutral.shown (if x < W + 2 * h ∧ y < H + 2 * h then tells 0 (fromTold (fromOf (kk kind) L h W H x y)) else NO) = if x < W + 2 * h ∧ y < H + 2 * h then _ else _
        by_cases e : x < W + 2 * h ∧ y < H + 2 * h
        · rw [if_pos e, if_pos e]
          have cb := bounds_iff.mp c
          simp only [sideI, Bool.and_eq_true, decide_eq_true_eq] at cb
          rw [← knot_is (kk kind) L h W H x y e.1 e.2 (by omega) (by omega) (by omega)]
          cases fromOf (kk kind) L h W H x y <;> rfl
        · rw [if_neg e, if_neg e]
          rfl
    · rw [if_neg c, if_neg fun z => c (bounds_iff.mpr z)]
      rfl
  · rw [kind_none hk]
    have ib : inB kind L h W H = false := by
      unfold inB
      rw [decide_eq_false hk]
      rfl
    rw [ib]
    rfl
end RM
namespace RM
open Wqbbch
/-! ### sizes -/
/-- a row of borders as the numbers tell it: kind, length, depth of each -/
def Row3 := List (Int × Nat × Nat)
def rows3 : List Int → Option (List (Int × Nat × Nat))
  | [] => some []
  | a :: b :: c :: r => if a ≤ 2 ∧ 1 ≤ b ∧ b ≤ 512 ∧ 1 ≤ c ∧ c ≤ 128 then (rows3 r).map fun l => (a, b.toNat, c.toNat) :: l else none
  | _ => none
/-- one way comes out -/
def wayI (kind : Int) (L h W : Nat) : Bool := if kind = 0 then decide (W % L = 0) else if kind = 1 then decide ((W + 2 * h) % (2 * L) = 0) else decide ((W + h) % L = 0)
def allWay : List (Int × Nat × Nat) → Nat → Bool
  | [], W => decide (W ≤ 512)
  | r :: l, W => wayI r.1 r.2.1 r.2.2 W && allWay l (W + 2 * r.2.2)
def GoodSize (l : List (Int × Nat × Nat)) (p W x : Nat) : Prop := W ≤ x ∧ x % p = 0 ∧ allWay l x = true
/-- the least one, if there is one -/
def IsLeast (P : Nat → Prop) (x : Nat) : Prop := P x ∧ ∀ y, y < x → ¬ P y
def toRow (r : Int × Nat × Nat) : Row := ⟨kk r.1, r.2.2, r.2.1⟩
theorem rows_is : ∀ (n : Nat) (bs : List Int), bs.length ≤ n → (∀ b ∈ bs, 0 ≤ b) → rowsOf (RugDNeutral.nats bs) = (rows3 bs).map (fun l => l.map toRow)
  | _, [], _, _ => rfl
  | _, [_], _, _ => rfl
  | _, [_, _], _, _ => rfl
  | 0, _ :: _ :: _ :: _, hn, _ => by simp at hn
  | n + 1, a :: b :: c :: r, hn, h => by
    have a0 : 0 ≤ a := h a (by simp)
    have b0 : 0 ≤ b := h b (by simp)
    have c0 : 0 ≤ c := h c (by simp)
    have ih := rows_is n r (by simp only [List.length_cons] at hn; omega) fun x hx => h x (by simp [hx])
    show (match kindAt a.toNat with
      | none => none
      | some k => if one b.toNat = true ∧ deepOk c.toNat = true then (rowsOf (RugDNeutral.nats r)).map fun l => ⟨k, c.toNat, b.toNat⟩ :: l else none) = (if a ≤ 2 ∧ 1 ≤ b ∧ b ≤ 512 ∧ 1 ≤ c ∧ c ≤ 128 then (rows3 r).map fun l => (a, b.toNat, c.toNat) :: l else none).map _
    have eS : SIDE = 512 := rfl
    have eD : DEEP = 128 := rfl
    by_cases k : a ≤ 2
    · rw [kind_at a0 k]
      simp only
      by_cases d : one b.toNat = true ∧ deepOk c.toNat = true
      · have d' := d
        simp only [one, deepOk, Bool.and_eq_true, decide_eq_true_eq] at d'
        rw [if_pos d, if_pos (by omega), ih]
        cases rows3 r <;> rfl
      · have d' := d
        simp only [one, deepOk, Bool.and_eq_true, decide_eq_true_eq] at d'
        rw [if_neg d, if_neg (by omega)]
        rfl
    · rw [kind_none k, if_neg (fun z => k z.1)]
      rfl
theorem way_is (r : Int × Nat × Nat) (W : Nat) : fitsWay (toRow r).kind (toRow r).long (toRow r).deep W = wayI r.1 r.2.1 r.2.2 W := by
  unfold toRow wayI kk
  simp only
  by_cases c0 : r.1 = 0
  · rw [if_pos c0, if_pos c0]; rfl
  · rw [if_neg c0, if_neg c0]
    by_cases c1 : r.1 = 1
    · rw [if_pos c1, if_pos c1]; rfl
    · rw [if_neg c1, if_neg c1]; rfl
theorem all_is : ∀ (l : List (Int × Nat × Nat)) (W : Nat), allFit (l.map toRow) W = allWay l W
  | [], W => rfl
  | r :: l, W => by
    show (fitsWay (toRow r).kind (toRow r).long (toRow r).deep W && allFit (l.map toRow) (W + 2 * r.2.2)) = _
    rw [way_is, all_is l]
    rfl
theorem all_bound : ∀ (l : List (Int × Nat × Nat)) (W : Nat), allWay l W = true → W ≤ 512
  | [], W, h => of_decide_eq_true h
  | r :: l, W, h => by
    have h' : (wayI r.1 r.2.1 r.2.2 W && allWay l (W + 2 * r.2.2)) = true := h
    rw [Bool.and_eq_true] at h'
    have := all_bound l _ h'.2
    omega
theorem least_some {l : List (Int × Nat × Nat)} {p W x : Nat} (h : IsLeast (GoodSize l p W) x) : leastSize (l.map toRow) p W = some x := by
  obtain ⟨⟨h1, h2, h3⟩, h4⟩ := h
  have hx := all_bound l x h3
  unfold leastSize
  have eS : SIDE = 512 := rfl
  rw [List.find?_range_eq_some]
  simp only [all_is, Bool.and_eq_true, decide_eq_true_eq, beq_iff_eq]
  refine ⟨⟨h1, h2, h3⟩, List.mem_range.mpr (by omega), ?_⟩
  intro y hy
  have n := h4 y hy
  unfold GoodSize at n
  rw [Bool.not_eq_true', Bool.eq_false_iff]
  intro z
  simp only [Bool.and_eq_true, decide_eq_true_eq, beq_iff_eq] at z
  exact n z
theorem least_none {l : List (Int × Nat × Nat)} {p W : Nat} (h : ∀ x, x ≤ 512 → ¬ GoodSize l p W x) : leastSize (l.map toRow) p W = none := by
  unfold leastSize
  have eS : SIDE = 512 := rfl
  rw [List.find?_eq_none]
  intro x hx
  have hx : x < SIDE + 1 := List.mem_range.mp hx
  rw [all_is]
  simp only [Bool.and_eq_true, decide_eq_true_eq, beq_iff_eq]
  exact h x (by omega)
def sizesBounds (p q W H : Int) : Bool := (decide (1 ≤ p) && decide (p ≤ 512)) && ((decide (1 ≤ q) && decide (q ≤ 512)) && ((decide (1 ≤ W) && decide (W ≤ 512)) && (decide (1 ≤ H) && decide (H ≤ 512))))
theorem sizes_long {p q W H : Int} {bs : List Int} (c : 48 < bs.length) : PyWqbbch.sizes p q W H bs = [-2] := by
  show RugDNeutral.shown (answer (.sizes (RugDNeutral.nats bs) p.toNat q.toNat W.toNat H.toNat)) = _
  unfold answer
  simp only
  have e : 3 * BORDERS = 48 := rfl
  have l : (RugDNeutral.nats bs).length = bs.length := by simp [RugDNeutral.nats]
  rw [e, l, if_pos c]
  rfl
theorem sizes_bad {p q W H : Int} {bs : List Int} (c : ¬ 48 < bs.length) (hb : ∀ b ∈ bs, 0 ≤ b) (h : ¬ (sizesBounds p q W H = true ∧ (rows3 bs).isSome = true)) : PyWqbbch.sizes p q W H bs = [-1] := by
  show RugDNeutral.shown (answer (.sizes (RugDNeutral.nats bs) p.toNat q.toNat W.toNat H.toNat)) = _
  unfold answer
  simp only
  have e : 3 * BORDERS = 48 := rfl
  have l : (RugDNeutral.nats bs).length = bs.length := by simp [RugDNeutral.nats]
  have eS : SIDE = 512 := rfl
  rw [e, l, if_neg c]
  by_cases d : one p.toNat = false ∨ one q.toNat = false ∨ one W.toNat = false ∨ one H.toNat = false
  · rw [if_pos d]; rfl
  · rw [if_neg d, rows_is _ bs (Nat.le_refl _) hb]
    cases r : rows3 bs with
    | none => rfl
    | some rows =>
      exfalso
      refine h ⟨?_, by rw [r]; rfl⟩
      simp only [one, ← Bool.not_eq_true, Bool.and_eq_true, decide_eq_true_eq] at d
      simp only [sizesBounds, Bool.and_eq_true, decide_eq_true_eq]
      omega
theorem sizes_due {p q W H : Int} {bs : List Int} {l : List (Int × Nat × Nat)} (c : ¬ 48 < bs.length) (hb : ∀ b ∈ bs, 0 ≤ b) (h : sizesBounds p q W H = true) (r : rows3 bs = some l) :
    (∀ x y, IsLeast (GoodSize l p.toNat W.toNat) x → IsLeast (GoodSize l q.toNat H.toNat) y → PyWqbbch.sizes p q W H bs = [0, ((x : Nat) : Int), ((y : Nat) : Int)]) ∧
    ((∀ x, x ≤ 512 → ¬ GoodSize l p.toNat W.toNat x) → PyWqbbch.sizes p q W H bs = [-5]) ∧ ((∀ x, x ≤ 512 → ¬ GoodSize l q.toNat H.toNat x) → PyWqbbch.sizes p q W H bs = [-5]) := by
  have e : 3 * BORDERS = 48 := rfl
  have ll : (RugDNeutral.nats bs).length = bs.length := by simp [RugDNeutral.nats]
  have eS : SIDE = 512 := rfl
  have hh := h
  simp only [sizesBounds, Bool.and_eq_true, decide_eq_true_eq] at hh
  have d : ¬ (one p.toNat = false ∨ one q.toNat = false ∨ one W.toNat = false ∨ one H.toNat = false) := by
    simp only [one, ← Bool.not_eq_true, Bool.and_eq_true, decide_eq_true_eq]
    omega
  have q0 : PyWqbbch.sizes p q W H bs = RugDNeutral.shown (match leastSize (l.map toRow) p.toNat W.toNat, leastSize (l.map toRow) q.toNat H.toNat with
        | some x, some y => tells 0 [x, y]
        | _, _ => NONE) := by
    show RugDNeutral.shown (answer (.sizes (RugDNeutral.nats bs) p.toNat q.toNat W.toNat H.toNat)) = _
    unfold answer
    simp only
    rw [e, ll, if_neg c, if_neg d, rows_is _ bs (Nat.le_refl _) hb, r]
    simp only [Option.map_some]
    cases leastSize (l.map toRow) p.toNat W.toNat with
    | none => cases leastSize (l.map toRow) q.toNat H.toNat <;> rfl
    | some x => cases leastSize (l.map toRow) q.toNat H.toNat <;> rfl
  rw [q0]
  refine ⟨fun x y hx hy => ?_, fun hx => ?_, fun hy => ?_⟩
  · rw [least_some hx, least_some hy]
    rfl
  · rw [least_none hx]
    rfl
  · rw [least_none hy]
    cases leastSize (l.map toRow) p.toNat W.toNat <;> rfl
end RM
/-! ### the text by places -/
namespace RH
open PySem PySem.Spec PyProof.Rows L2
open PySem.W (Codec WData)
open RM
def top (i : Nat) : Stmt := PySem.Challenge.pw_rugborders_s07_sizes.main.body.getD i (.Pass ⟨0, 0, 0, 0⟩)
abbrev sSide : Stmt := top 2
abbrev sDep : Stmt := top 11
abbrev sBord : Stmt := top 12
abbrev sAre : Stmt := top 13
abbrev sAlong : Stmt := top 14
abbrev sAllO : Stmt := top 16
abbrev sLeast : Stmt := top 15
abbrev sSizes : Stmt := top 10
/-! ### charts in the heap -/
inductive RowsAt (H : Hp) : List Addr → List (List Int) → Prop
  | nil : RowsAt H [] []
  | cons {a : Addr} {r : List Int} {as : List Addr} {rs : List (List Int)} : H a = some (.lst (r.map V.int)) → RowsAt H as rs → RowsAt H (a :: as) (r :: rs)
theorem RowsAt.len {H : Hp} : ∀ {as : List Addr} {rs : List (List Int)}, RowsAt H as rs → as.length = rs.length
  | _, _, .nil => rfl
  | _, _, .cons _ h => congrArg (· + 1) h.len
theorem RowsAt.same {H H' : Hp} (s : Same H H') : ∀ {as : List Addr} {rs : List (List Int)}, RowsAt H as rs → RowsAt H' as rs
  | _, _, .nil => .nil
  | _, _, .cons e h => .cons (s _ _ e) (h.same s)
theorem RowsAt.push {H : Hp} {a : Addr} {r : List Int} (e : H a = some (.lst (r.map V.int))) : ∀ {as : List Addr} {rs : List (List Int)}, RowsAt H as rs → RowsAt H (as ++ [a]) (rs ++ [r])
  | _, _, .nil => .cons e .nil
  | _, _, .cons e' h => .cons e' (h.push e)
theorem RowsAt.upd {H : Hp} {p : Addr} {o : HO} : ∀ {as : List Addr} {rs : List (List Int)}, RowsAt H as rs → p ∉ as → RowsAt (upd H p o) as rs
  | _, _, .nil, _ => .nil
  | _, _, .cons e h, n => .cons (by rw [upd_ne (fun z => n (by rw [z]; exact List.mem_cons_self ..))]; exact e) (h.upd fun z => n (List.mem_cons_of_mem _ z))
theorem RowsAt.get {H : Hp} : ∀ {as : List Addr} {rs : List (List Int)} {i : Nat} {a : Addr}, RowsAt H as rs → as[i]? = some a → ∃ r, rs[i]? = some r ∧ H a = some (.lst (r.map V.int))
  | _, _, i, a, .nil, h => by simp at h
  | _, _, 0, a, .cons e _, h => by
    have z := Option.some.inj h
    subst z
    exact ⟨_, rfl, e⟩
  | _, _, i + 1, a, .cons _ h', h => RowsAt.get (i := i) h' h
theorem RowsAt.mem {H : Hp} : ∀ {as : List Addr} {rs : List (List Int)} {a : Addr}, RowsAt H as rs → a ∈ as → ∃ o, H a = some o
  | _, _, a, .nil, h => by cases h
  | _, _, a, .cons e h', h => by
    rcases List.mem_cons.mp h with z | z
    · subst z
      exact ⟨_, e⟩
    · exact h'.mem z
def ChartAt (H : Hp) (a : Addr) (rs : List (List Int)) : Prop := ∃ as : List Addr, H a = some (.lst (as.map V.ref)) ∧ RowsAt H as rs
theorem ChartAt.same {H H' : Hp} (s : Same H H') {a : Addr} {rs : List (List Int)} (h : ChartAt H a rs) : ChartAt H' a rs := by
  obtain ⟨as, e, r⟩ := h
  exact ⟨as, s _ _ e, r.same s⟩
theorem same_new {H : Hp} {p : Addr} (h : H p = none) (o : HO) : Same H (upd H p o) := fun b u q => by rw [upd_ne (ne_of_none q h)]; exact q
/-- what was tracked at first stands, though an object made since is changed -/
theorem same_put {H H' : Hp} {p : Addr} (s : Same H H') (h : H p = none) (o : HO) : Same H (upd H' p o) := fun b u q => by rw [upd_ne (ne_of_none q h)]; exact s b u q
theorem map_at {α : Type} {f : α → V} {l : List α} {i : Nat} {y : V} (hi : (l.map f)[i]? = some y) : ∃ z, l[i]? = some z ∧ y = f z := by
  rw [List.getElem?_map] at hi
  cases e : l[i]? with
  | none => rw [e] at hi; cases hi
  | some z => rw [e] at hi; exact ⟨z, rfl, (Option.some.inj hi).symm⟩
theorem drop_at {α : Type} {l : List α} {i : Nat} {z : α} (h : l[i]? = some z) : l.drop i = z :: l.drop (i + 1) := by
  obtain ⟨hi, e⟩ := List.getElem?_eq_some_iff.mp h
  rw [← e]
  exact List.drop_eq_getElem_cons hi
/-! ### numbers -/
def sideZ (n : Int) : Bool := decide (1 ≤ n) && decide (n ≤ 512)
def sizeZ (w h : Int) : Bool := sideZ w && (sideZ h && decide (w * h ≤ 65536))
def inZ (kind L h W Hh : Int) : Bool := (decide (kind ≤ 2) && (decide (1 ≤ h) && decide (h ≤ 128))) && (sideZ L && (sideZ W && sideZ Hh))
def outZ (kind L h W Hh : Int) : Bool := if kind = 0 then decide (W % L = 0) && decide (Hh % L = 0) else if kind = 1 then decide ((W + 2 * h) % (2 * L) = 0) && decide ((Hh + 2 * h) % (2 * L) = 0) else decide ((W + h) % L = 0) && decide ((Hh + h) % L = 0)
theorem side_nat (n : Nat) : sideZ (n : Int) = sideI n := by
  rw [Bool.eq_iff_iff]
  simp only [sideZ, sideI, Bool.and_eq_true, decide_eq_true_eq]
  omega
theorem size_nat (w h : Nat) : sizeZ (w : Int) (h : Int) = sizeOkI w h := by
  have e : ((w : Int) * (h : Int) ≤ 65536) ↔ w * h ≤ 65536 := by
    rw [← Int.natCast_mul]
    omega
  rw [Bool.eq_iff_iff]
  simp only [sizeZ, sizeOkI, sideZ, Bool.and_eq_true, decide_eq_true_eq, e]
  omega
theorem in_nat (kind : Int) (L h W Hh : Nat) : inZ kind L h W Hh = inB kind L h W Hh := by
  rw [Bool.eq_iff_iff]
  simp only [inZ, inB, sideZ, sideI, Bool.and_eq_true, decide_eq_true_eq]
  omega
theorem mod_nat (a b : Nat) : decide (((a : Nat) : Int) % ((b : Nat) : Int) = 0) = decide (a % b = 0) := by
  rw [← Int.natCast_emod]
  rw [Bool.eq_iff_iff]
  simp only [decide_eq_true_eq]
  omega
theorem out_nat (kind : Int) (L h W Hh : Nat) : outZ kind L h W Hh = comesOut kind L h W Hh := by
  unfold outZ comesOut
  have e1 : ((W : Int) + 2 * (h : Int)) = ((W + 2 * h : Nat) : Int) := by omega
  have e2 : ((Hh : Int) + 2 * (h : Int)) = ((Hh + 2 * h : Nat) : Int) := by omega
  have e3 : (2 * (L : Int)) = ((2 * L : Nat) : Int) := by omega
  have e4 : ((W : Int) + (h : Int)) = ((W + h : Nat) : Int) := by omega
  have e5 : ((Hh : Int) + (h : Int)) = ((Hh + h : Nat) : Int) := by omega
  rw [e1, e2, e3, e4, e5]
  simp only [mod_nat]
theorem pe_gi {X : Cx} {x : Str} {i : Int} {t : Tok} {pos : Pos} (hg : Gl X x) (hm : X.mg x = some (.int i t)) (hd : (x == ("__debug__" : Str)) = false := by decide) : PE X (.Name x pos) (tC (.int i)) := pe_glob (v := .int i) hg hm ⟨t, rfl⟩ hd
theorem dvi (a b : Int) : decide (V.int a = V.int b) = decide (a = b) := by
  rw [Bool.eq_iff_iff]
  simp only [decide_eq_true_eq]
  exact ⟨fun h => V.int.inj h, fun h => congrArg V.int h⟩
theorem bl_of {Q : VK} {H : Hp} {c d : Bool} (q : Q (.bl c) H) (e : c = d) : Q (.bl d) H := e ▸ q
theorem at_zero {α : Type} (x : α) (l : List α) : atI (x :: l) 0 = some x := atI_nat (j := 0) rfl
theorem line_small {n : Nat} (h : n ≤ 1000000) : n < sizeLine := Nat.lt_of_le_of_lt h (by rw [sizeLine_eq]; decide)
theorem take_more {α : Type} {l : List α} {i : Nat} {x : α} (h : l[i]? = some x) : l.take (i + 1) = l.take i ++ [x] := by
  rw [List.take_add_one, h]
  rfl
theorem PE.weak {X : Cx} {e : Expr} {t t' : TE} (h : PE X e t) (w : ∀ σ H Q, t' σ H Q → t σ H Q) : PE X e t' := ⟨fun pins s σ H Q I hw => h.run pins s σ H Q I (w σ H Q hw)⟩
theorem se_name (x : Str) (p : Pos) (es : List Expr) (env : Env) : starEach (.Name x p :: es) env = (false, eval (.Name x p) env) :: starEach es env := rfl
theorem pn {X : Cx} (i : Nat) {x : Str} {p : Pos} {es : List Expr} {t : TA} (hr : PA X es t) (hN : X.N[i]? = some x := by rfl) (hv : Vis X.env.scope x := by first | exact Or.inl rfl | exact Or.inr (Or.inl rfl) | exact Or.inr (Or.inr rfl)) (hd : (x == ("__debug__" : Str)) = false := by decide)
    (hcd : (x == ("__classdict__" : Str)) = false := by decide) : PA X (.Name x p :: es) (tCons (tVar i) t) := pa_cons (pe_var hN hv hd hcd) hr (se_name _ _ _ _)
structure Defs (K : PySem.W.Frag) (P : Program) (w : World) (mg : Str → Option Value) (base : Heap) (k : Nat) (x : Str) (ps : List Str) (sp : Sp) (f : Addr) (fd : FuncData) : Prop where
  G : FnOk P w K mg base CX0 k f fd ps sp
  b : Binds K fd ps []
  kp : PySem.W.keepIn K (.ref f) = true
  m : mg x = some (.ref f)
theorem PT.weak {X : Cx} {e : Expr} {t t' : TT} (h : PT X e t) (w : ∀ σ H Q, t' σ H Q → t σ H Q) : PT X e t' := ⟨fun pins s σ H Q I hw => h.run pins s σ H Q I (w σ H Q hw)⟩
theorem at_one {α : Type} (x y : α) (l : List α) : atI (x :: y :: l) 1 = some y := atI_nat (j := 1) rfl
theorem at_two {α : Type} (x y z : α) (l : List α) : atI (x :: y :: z :: l) 2 = some z := atI_nat (j := 2) rfl
section
variable {P : Program} {w : World} {K : PySem.W.Frag} {mg : Str → Option Value} {base : Heap} {f : Addr} {fd : FuncData}
def spSide : Sp := fun vs H Q _ => ∃ n : Int, vs = [.int n] ∧ Q (.bl (sideZ n)) H
theorem scSide : FnScope ["number"] ["number"] (defScope sSide) := ⟨rfl, rfl, rfl, by decide +kernel, rfl, by decide +kernel, by decide +kernel⟩
theorem ok_side {t : Tok} (F : Fun K "is_side" "is_side" sSide f fd) (mS : mg "MOST_SIDE" = some (.int 512 t)) : FnOk P w K mg base CX0 1 f fd ["number"] spSide := by
  refine F.ok scSide (fun vs H Q E h => ?_) (fun cdv A outer s H vs Q E hr h => ?_)
  · obtain ⟨b, rfl, _⟩ := h
    rfl
  obtain ⟨b, rfl, q⟩ := h
  refine ⟨_, pss_one (ps_ret (pe_chain op_le op_le pe_int (pv 0) (pe_gi rfl mS))), ?_⟩
  unfold sideZ at q
  refine ⟨_, rfl, _, _, rfl, rfl, _, rfl, ite2 (fun c => ?_) (fun c => ?_)⟩
  · rw [c] at q
    exact ⟨_, _, rfl, rfl, q⟩
  · rw [Bool.eq_false_iff.mpr c] at q
    exact q
/-! ### is_depth -/
def depthZ (n : Int) : Bool := decide (1 ≤ n) && decide (n ≤ 128)
def spDep : Sp := fun vs H Q _ => ∃ n : Int, vs = [.int n] ∧ Q (.bl (depthZ n)) H
theorem scDep : FnScope ["h"] ["h"] (defScope sDep) := ⟨rfl, rfl, rfl, by decide +kernel, rfl, by decide +kernel, by decide +kernel⟩
theorem ok_dep {t : Tok} (F : Fun K "is_depth" "is_depth" sDep f fd) (mS : mg "MOST_DEPTH" = some (.int 128 t)) : FnOk P w K mg base CX0 1 f fd ["h"] spDep := by
  refine F.ok scDep (fun vs H Q E h => ?_) (fun cdv A outer s H vs Q E hr h => ?_)
  · obtain ⟨b, rfl, _⟩ := h
    rfl
  obtain ⟨b, rfl, q⟩ := h
  refine ⟨_, pss_one (ps_ret (pe_chain op_le op_le pe_int (pv 0) (pe_gi rfl mS))), ?_⟩
  unfold depthZ at q
  refine ⟨_, rfl, _, _, rfl, rfl, _, rfl, ite2 (fun c => ?_) (fun c => ?_)⟩
  · rw [c] at q
    exact ⟨_, _, rfl, rfl, q⟩
  · rw [Bool.eq_false_iff.mpr c] at q
    exact q
/-! ### is_border -/
def bordZ (kind L h : Int) : Bool := decide (kind ≤ 2) && (sideZ L && depthZ h)
def spBord : Sp := fun vs H Q _ => ∃ kind L h : Int, vs = [.int kind, .int L, .int h] ∧ Q (.bl (bordZ kind L h)) H
theorem scBord : FnScope ["kind", "L", "h"] ["kind", "L", "h"] (defScope sBord) := ⟨rfl, rfl, rfl, by decide +kernel, rfl, by decide +kernel, by decide +kernel⟩
theorem ok_bord {t : Tok} {fS fD : Addr} {dS dD : FuncData} (F : Fun K "is_border" "is_border" sBord f fd) (mR : mg "RUN" = some (.int 2 t)) (S : Defs K P w mg base 1 "is_side" ["number"] spSide fS dS) (D : Defs K P w mg base 1 "is_depth" ["h"] spDep fD dD) :
    FnOk P w K mg base CX0 2 f fd ["kind", "L", "h"] spBord := by
  refine F.ok scBord (fun vs H Q E h => ?_) (fun cdv A outer s H vs Q E hr h => ?_)
  · obtain ⟨a, b, c, rfl, _⟩ := h
    rfl
  obtain ⟨kind, L, h, rfl, q⟩ := h
  refine ⟨_, pss_one (ps_ret (pe_and (pe_cmpR op_le (pv 0) (pe_gi rfl mR) (nomark _)) (pe_and (pe_call S.G hr rfl S.m S.kp S.b .nil pass0 (pn 1 pa_nil)) (pe_one (pe_call D.G hr rfl D.m D.kp D.b .nil pass0 (pn 2 pa_nil)))))), ?_⟩
  unfold bordZ at q
  refine ⟨_, rfl, _, _, rfl, rfl, _, rfl, ite2 (fun c => ?_) (fun c => ?_)⟩
  · rw [c] at q
    refine ⟨_, rfl, L, rfl, _, rfl, ite2 (fun d => ?_) (fun d => ?_)⟩
    · rw [d] at q
      exact ⟨_, rfl, h, rfl, q⟩
    · rw [Bool.eq_false_iff.mpr d] at q
      exact q
  · rw [Bool.eq_false_iff.mpr c] at q
    exact q
/-! ### ranges with a step -/
theorem rgc_up {a b c : Int} {n : Nat} (ha : 0 ≤ a) (ha' : a ≤ 100000) (hb : 0 ≤ b) (hb' : b ≤ 100000) (c1 : 1 ≤ c) (c2 : c ≤ 100000) (hn : ((n : Nat) : Int) = if a < b then (b - a - 1) / c + 1 else 0) (small : n ≤ 100000) : RgC a b c n := by
  have e : PySem.Builtin.Range.rangeSize a b c = n := by
    unfold PySem.Builtin.Range.rangeSize
    rw [if_pos (show c > 0 by omega), hn]
  refine ⟨by omega, by omega, ?_, e⟩
  unfold PySem.Builtin.Range.small
  rw [e, if_pos (show c > 0 by omega)]
  simp only [PySem.Builtin.Range.rangeFitsLong, Bool.and_eq_true, Bool.or_eq_true, decide_eq_true_eq]
  omega
/-- range(0, 3 n, 3) -/
theorem rgc_three {n : Nat} (h : n ≤ 1000) : RgC 0 ((3 * n : Nat) : Int) 3 n := by
  refine rgc_up (Int.le_refl 0) (by decide) (by omega) (by omega) (by decide) (by decide) ?_ (by omega)
  by_cases c : (0 : Int) < ((3 * n : Nat) : Int)
  · rw [if_pos c]
    omega
  · rw [if_neg c]
    omega
/-- the multiples of p up to 512: how many -/
theorem rgc_mult {p : Nat} (h1 : 1 ≤ p) (h2 : p ≤ 512) : ∃ n : Nat, n ≤ 512 ∧ RgC (p : Int) 513 (p : Int) n ∧ 512 < (n + 1) * p := by
  refine ⟨512 / p, Nat.div_le_self _ _, rgc_up (by omega) (by omega) (by decide) (by decide) (by omega) (by omega) ?_ (Nat.le_trans (Nat.div_le_self _ _) (by decide)), ?_⟩
  · rw [if_pos (by omega)]
    have e : (513 - (p : Int) - 1) = ((512 - p : Nat) : Int) := by omega
    rw [e, ← Int.natCast_ediv]
    have z : (512 - p) / p + 1 = 512 / p := by
      rw [Nat.div_eq_sub_div (a := 512) h1 h2]
    omega
  · have := Nat.lt_mul_div_succ 512 (show 0 < p from h1)
    rw [Nat.mul_comm]
    exact this
theorem drop3 {bs : List Int} {i : Nat} (h : 3 * i + 2 < bs.length) : bs.drop (3 * i) = bs[3 * i] :: bs[3 * i + 1] :: bs[3 * i + 2] :: bs.drop (3 * (i + 1)) := by
  have e1 := List.drop_eq_getElem_cons (show 3 * i < bs.length by omega)
  have e2 := List.drop_eq_getElem_cons (show 3 * i + 1 < bs.length by omega)
  have e3 := List.drop_eq_getElem_cons (show 3 * i + 2 < bs.length by omega)
  rw [e1, e2, e3]
  rfl
theorem rows3_len : ∀ (n : Nat) (bs : List Int) (l : List (Int × Nat × Nat)), bs.length ≤ n → rows3 bs = some l → bs.length = 3 * l.length
  | _, [], l, _, h => by
    have e : [] = l := Option.some.inj h
    rw [← e] <;> rfl
  | _, [_], l, _, h => by cases h
  | _, [_, _], l, _, h => by cases h
  | 0, _ :: _ :: _ :: _, l, hn, _ => by simp at hn
  | n + 1, a :: b :: c :: r, l, hn, h => by
    have h' : (if a ≤ 2 ∧ 1 ≤ b ∧ b ≤ 512 ∧ 1 ≤ c ∧ c ≤ 128 then (rows3 r).map fun l => (a, b.toNat, c.toNat) :: l else none) = some l := h
    by_cases k : a ≤ 2 ∧ 1 ≤ b ∧ b ≤ 512 ∧ 1 ≤ c ∧ c ≤ 128
    · rw [if_pos k] at h'
      cases e : rows3 r with
      | none => rw [e] at h'; cases h'
      | some m =>
        rw [e] at h'
        have z := rows3_len n r m (by simp only [List.length_cons] at hn; omega) e
        have h2 : (a, b.toNat, c.toNat) :: m = l := Option.some.inj h'
        rw [← h2]
        simp only [List.length_cons]
        omega
    · rw [if_neg k] at h'
      cases h'
theorem rows3_cut : ∀ (n : Nat) (bs : List Int), bs.length ≤ n → bs.length % 3 ≠ 0 → rows3 bs = none := by
  intro n bs hn h
  cases e : rows3 bs with
  | none => rfl
  | some l =>
    have := rows3_len n bs l hn e
    omega
theorem at_int {bs : List Int} {i : Nat} {k : Int} (e : k = ((i : Nat) : Int)) (h : i < bs.length) : atI (bs.map V.int) k = some (.int bs[i]) := by
  subst e
  exact atI_nat (by rw [List.getElem?_map, List.getElem?_eq_getElem h]; rfl)
/-! ### are_borders -/
def spAre (K : PySem.W.Frag) : Sp := fun vs H Q _ => ∃ (a : Addr) (bs : List Int), vs = [.ref a] ∧ SqL K H a (bs.map V.int) ∧ bs.length ≤ 1000 ∧ Q (.bl (rows3 bs).isSome) H
theorem scAre : FnScope ["numbers", "at"] ["numbers"] (defScope sAre) := ⟨rfl, rfl, rfl, by decide +kernel, rfl, by decide +kernel, by decide +kernel⟩
theorem ok_are {t : Tok} {fB : Addr} {dB : FuncData} (F : Fun K "are_borders" "are_borders" sAre f fd) (ml : mg "len" = none) (mr : mg "range" = none) (m3 : mg "NUMBERS_OF_BORDER" = some (.int 3 t)) (B : Defs K P w mg base 2 "is_border" ["kind", "L", "h"] spBord fB dB) :
    FnOk P w K mg base CX0 3 f fd ["numbers"] (spAre K) := by
  refine F.ok scAre (fun vs H Q E h => ?_) (fun cdv A outer s H vs Q E hr h => ?_)
  · obtain ⟨a, bs, rfl, _⟩ := h
    rfl
  obtain ⟨a, bs, rfl, hS, small, q⟩ := h
  refine ⟨_, pss_cons (ps_if (pt_cmpR op_ne (pe_op op_mod (pe_callB call_len_seq rfl ml PySem.boot_len (pn 0 pa_nil)) (pe_gi rfl m3)) pe_int (nomark _)) (pss_one (ps_ret pe_bl)) pss_nil)
    (pss_cons (ps_for PassesOwn.never rfl (pi_range3 rfl mr (pa_cons pe_int (pa_cons (pe_callB call_len_seq rfl ml PySem.boot_len (pn 0 pa_nil)) (pa_cons (pe_gi rfl m3) pa_nil)))) (pg_name (i := 1) scAre.nd rfl (.inl rfl))
      (pss_one (ps_if (pt_not (pt_val (pe_call B.G hr rfl B.m B.kp B.b .nil pass0
        (pa_cons (pe_ix ix_list (pv 0) (pv 1) (fun _ _ => rfl)) (pa_cons (pe_ix ix_list (pv 0) (pe_op op_add (pv 1) pe_int) (fun _ _ => rfl)) (pa_cons (pe_ix ix_list (pv 0) (pe_op op_add (pv 1) pe_int) (fun _ _ => rfl)) pa_nil))))))
        (pss_one (ps_ret pe_bl)) pss_nil)))
    (pss_one (ps_ret pe_bl))), ?_⟩
  refine ⟨_, rfl, a, _, rfl, .inl hS, _, _, rfl, rfl, (by show (0 : Int) < 3; decide), rfl, _, rfl, ?_⟩
  rw [List.length_map, dvi]
  by_cases c : bs.length % 3 = 0
  rotate_left
  · rw [decide_eq_false (show ¬ ((bs.length : Nat) : Int) % 3 = 0 by omega)]
    rw [rows3_cut _ bs (Nat.le_refl _) c] at q
    exact iteT q
  rw [decide_eq_true (show ((bs.length : Nat) : Int) % 3 = 0 by omega)]
  refine iteF ?_
  obtain ⟨n, hn⟩ : ∃ n, bs.length = 3 * n := ⟨bs.length / 3, by omega⟩
  refine ⟨_, rfl, a, _, rfl, .inl hS, ?_⟩
  rw [List.length_map]
  refine ⟨0, _, 3, n, rfl, (by rw [hn]; exact rgc_three (by omega)), for_rangeC (lo := 0) (c := 3) (n := n) (fun i σ H' => ∃ v : Option V, σ = [some (.ref a), v] ∧ H' = H ∧ (rows3 bs).isSome = (rows3 (bs.drop (3 * i))).isSome)
    ⟨none, rfl, rfl, rfl⟩ ?_ ?_⟩
  · rintro i σ H' hi ⟨v, rfl, rfl, e⟩
    have hd := drop3 (bs := bs) (i := i) (by omega)
    refine ⟨_, rfl, _, rfl, a, _, _, _, rfl, rfl, hS, at_int (i := 3 * i) (by omega) (by omega), ?_⟩
    refine ⟨_, rfl, _, rfl, _, _, rfl, rfl, a, _, _, _, rfl, rfl, hS, at_int (i := 3 * i + 1) (by omega) (by omega), ?_⟩
    refine ⟨_, rfl, _, rfl, _, _, rfl, rfl, a, _, _, _, rfl, rfl, hS, at_int (i := 3 * i + 2) (by omega) (by omega), ?_⟩
    refine ⟨_, _, _, rfl, _, rfl, ?_⟩
    rw [hd] at e
    have e' : (rows3 bs).isSome = (if bs[3 * i] ≤ 2 ∧ 1 ≤ bs[3 * i + 1] ∧ bs[3 * i + 1] ≤ 512 ∧ 1 ≤ bs[3 * i + 2] ∧ bs[3 * i + 2] ≤ 128 then (rows3 (bs.drop (3 * (i + 1)))).map fun l => (bs[3 * i], (bs[3 * i + 1]).toNat, (bs[3 * i + 2]).toNat) :: l else none).isSome := e
    cases d : bordZ bs[3 * i] bs[3 * i + 1] bs[3 * i + 2] with
    | false =>
      rw [if_neg (by
        intro z
        rw [Bool.eq_false_iff] at d
        apply d
        simp only [bordZ, sideZ, depthZ, Bool.and_eq_true, decide_eq_true_eq]
        omega)] at e'
      rw [e'] at q
      exact iteT q
    | true =>
      simp only [bordZ, sideZ, depthZ, Bool.and_eq_true, decide_eq_true_eq] at d
      rw [if_pos (by omega)] at e'
      refine iteF ⟨_, rfl, rfl, ?_⟩
      rw [e', Option.isSome_map]
  · rintro σ H' ⟨v, rfl, rfl, e⟩
    rw [List.drop_of_length_le (by omega)] at e
    rw [e] at q
    exact q
/-! ### comes_out_along -/
def alongZ (kind L h side : Int) : Bool := if kind = 0 then decide (side % L = 0) else if kind = 1 then decide ((side + 2 * h) % (2 * L) = 0) else decide ((side + h) % L = 0)
def spAlong : Sp := fun vs H Q _ => ∃ kind L h side : Int, vs = [.int kind, .int L, .int h, .int side] ∧ 0 < L ∧ Q (.bl (alongZ kind L h side)) H
theorem scAlong : FnScope ["kind", "L", "h", "side"] ["kind", "L", "h", "side"] (defScope sAlong) := ⟨rfl, rfl, rfl, by decide +kernel, rfl, by decide +kernel, by decide +kernel⟩
theorem ok_along {t t2 : Tok} (F : Fun K "comes_out_along" "comes_out_along" sAlong f fd) (m0 : mg "SET" = some (.int 0 t)) (m1 : mg "MET" = some (.int 1 t2)) : FnOk P w K mg base CX0 1 f fd ["kind", "L", "h", "side"] spAlong := by
  refine F.ok scAlong (fun vs H Q E h => ?_) (fun cdv A outer s H vs Q E hr h => ?_)
  · obtain ⟨a, b, c, d, rfl, _⟩ := h
    rfl
  obtain ⟨kind, L, h, side, rfl, hL, q⟩ := h
  refine ⟨_, pss_cons (ps_if (pt_cmpR op_eq (pv 0) (pe_gi rfl m0) (nomark _)) (pss_one (ps_ret (pe_cmpR op_eq (pe_op op_mod (pv 3) (pv 1)) pe_int (nomark _)))) pss_nil)
    (pss_cons (ps_if (pt_cmpR op_eq (pv 0) (pe_gi rfl m1) (nomark _)) (pss_one (ps_ret (pe_cmpR op_eq (pe_op op_mod (pe_op op_add (pv 3) (pe_op op_mul pe_int (pv 2))) (pe_op op_mul pe_int (pv 1))) pe_int (nomark _)))) pss_nil)
    (pss_one (ps_ret (pe_cmpR op_eq (pe_op op_mod (pe_op op_add (pv 3) (pv 2)) (pv 1)) pe_int (nomark _))))), ?_⟩
  unfold alongZ at q
  refine ⟨_, rfl, rfl, _, rfl, ite2 (fun c => ?_) (fun c => ?_)⟩
  · have c : kind = 0 := V.int.inj (of_decide_eq_true c)
    rw [if_pos c] at q
    exact ⟨_, rfl, _, rfl, _, _, rfl, rfl, hL, rfl, bl_of q (dvi _ _).symm⟩
  have c : ¬ kind = 0 := fun z => c (decide_eq_true (congrArg V.int z))
  rw [if_neg c] at q
  refine ⟨_, rfl, rfl, _, rfl, ite2 (fun c1 => ?_) (fun c1 => ?_)⟩
  · have c1 : kind = 1 := V.int.inj (of_decide_eq_true c1)
    rw [if_pos c1] at q
    exact ⟨_, rfl, _, rfl, _, _, rfl, rfl, .inl ⟨by decide, by decide⟩, _, _, rfl, rfl, _, rfl, _, _, rfl, rfl, .inl ⟨by decide, by decide⟩, _, _, rfl, rfl, (by show (0 : Int) < 2 * L; omega), rfl, bl_of q (dvi _ _).symm⟩
  have c1 : ¬ kind = 1 := fun z => c1 (decide_eq_true (congrArg V.int z))
  rw [if_neg c1] at q
  exact ⟨_, rfl, _, rfl, _, _, rfl, rfl, _, rfl, _, _, rfl, rfl, hL, rfl, bl_of q (dvi _ _).symm⟩
/-! ### all_come_out -/
theorem way_along {kind : Int} {L h W : Nat} : alongZ kind L h W = wayI kind L h W := by
  unfold alongZ wayI
  have e1 : ((W : Int) + 2 * (h : Int)) = ((W + 2 * h : Nat) : Int) := by omega
  have e3 : (2 * (L : Int)) = ((2 * L : Nat) : Int) := by omega
  have e4 : ((W : Int) + (h : Int)) = ((W + h : Nat) : Int) := by omega
  rw [e1, e3, e4]
  simp only [mod_nat]
def spAllO (K : PySem.W.Frag) : Sp := fun vs H Q _ => ∃ (W : Nat) (a : Addr) (bs : List Int) (l : List (Int × Nat × Nat)), vs = [.int W, .ref a] ∧ SqL K H a (bs.map V.int) ∧ bs.length ≤ 1000 ∧ rows3 bs = some l ∧ Q (.bl (allWay l W)) H
theorem scAllO : FnScope ["side", "borders", "whole", "at", "h"] ["side", "borders"] (defScope sAllO) := ⟨rfl, rfl, rfl, by decide +kernel, rfl, by decide +kernel, by decide +kernel⟩
theorem ok_allO {t t2 : Tok} {fA : Addr} {dA : FuncData} (F : Fun K "all_come_out" "all_come_out" sAllO f fd) (ml : mg "len" = none) (mr : mg "range" = none) (m3 : mg "NUMBERS_OF_BORDER" = some (.int 3 t)) (mS : mg "MOST_SIDE" = some (.int 512 t2))
    (B : Defs K P w mg base 1 "comes_out_along" ["kind", "L", "h", "side"] spAlong fA dA) : FnOk P w K mg base CX0 2 f fd ["side", "borders"] (spAllO K) := by
  refine F.ok scAllO (fun vs H Q E h => ?_) (fun cdv A outer s H vs Q E hr h => ?_)
  · obtain ⟨W, a, bs, l, rfl, _⟩ := h
    rfl
  obtain ⟨W, a, bs, l, rfl, hS, small, hl, q⟩ := h
  refine ⟨_, pss_cons (ps_set (i := 2) scAllO.nd rfl (.inl rfl) (pv 0))
    (pss_cons (ps_for PassesOwn.never rfl (pi_range3 rfl mr (pa_cons pe_int (pa_cons (pe_callB call_len_seq rfl ml PySem.boot_len (pn 1 pa_nil)) (pa_cons (pe_gi rfl m3) pa_nil)))) (pg_name (i := 3) scAllO.nd rfl (.inl rfl))
      (pss_cons (ps_set (i := 4) scAllO.nd rfl (.inl rfl) (pe_ix ix_list (pv 1) (pe_op op_add (pv 3) pe_int) (fun _ _ => rfl)))
      (pss_cons (ps_if (pt_not (pt_val (pe_call B.G hr rfl B.m B.kp B.b .nil pass0
        (pa_cons (pe_ix ix_list (pv 1) (pv 3) (fun _ _ => rfl)) (pa_cons (pe_ix ix_list (pv 1) (pe_op op_add (pv 3) pe_int) (fun _ _ => rfl)) (pn 4 (pn 2 pa_nil)))))))
        (pss_one (ps_ret pe_bl)) pss_nil)
      (pss_one (ps_aug (i := 2) scAllO.nd rfl (.inl rfl) (pe_op op_mul pe_int (pv 4)) ip_add)))))
    (pss_one (ps_ret (pe_cmpR op_le (pv 2) (pe_gi rfl mS) (nomark _))))), ?_⟩
  have hn := rows3_len _ bs l (Nat.le_refl _) hl
  refine ⟨_, rfl, ?_⟩
  refine ⟨_, rfl, a, _, rfl, .inl hS, ?_⟩
  rw [List.length_map]
  refine ⟨0, _, 3, l.length, rfl, (by rw [hn]; exact rgc_three (by omega)), for_rangeC (lo := 0) (c := 3) (n := l.length) (fun i σ H' => ∃ (u v : Option V) (X : Nat) (m : List (Int × Nat × Nat)), σ = [some (.int (W : Nat)), some (.ref a), some (.int (X : Nat)), u, v] ∧ H' = H ∧ rows3 (bs.drop (3 * i)) = some m ∧ allWay l W = allWay m X)
    ⟨none, none, W, l, rfl, rfl, hl, rfl⟩ ?_ ?_⟩
  · rintro i σ H' hi ⟨u, v, X, m, rfl, rfl, hm, e⟩
    have hd := drop3 (bs := bs) (i := i) (by omega)
    rw [hd] at hm
    have hm' : (if bs[3 * i] ≤ 2 ∧ 1 ≤ bs[3 * i + 1] ∧ bs[3 * i + 1] ≤ 512 ∧ 1 ≤ bs[3 * i + 2] ∧ bs[3 * i + 2] ≤ 128 then (rows3 (bs.drop (3 * (i + 1)))).map fun l => (bs[3 * i], (bs[3 * i + 1]).toNat, (bs[3 * i + 2]).toNat) :: l else none) = some m := hm
    by_cases k : bs[3 * i] ≤ 2 ∧ 1 ≤ bs[3 * i + 1] ∧ bs[3 * i + 1] ≤ 512 ∧ 1 ≤ bs[3 * i + 2] ∧ bs[3 * i + 2] ≤ 128
    rotate_left
    · rw [if_neg k] at hm'
      cases hm'
    rw [if_pos k] at hm'
    cases e3 : rows3 (bs.drop (3 * (i + 1))) with
    | none => rw [e3] at hm'; cases hm'
    | some m' =>
    rw [e3] at hm'
    have hm2 : (bs[3 * i], (bs[3 * i + 1]).toNat, (bs[3 * i + 2]).toNat) :: m' = m := Option.some.inj hm'
    obtain ⟨L, hL⟩ : ∃ n : Nat, bs[3 * i + 1] = n := ⟨(bs[3 * i + 1]).toNat, by omega⟩
    obtain ⟨h, hh⟩ : ∃ n : Nat, bs[3 * i + 2] = n := ⟨(bs[3 * i + 2]).toNat, by omega⟩
    have e' : allWay l W = (wayI bs[3 * i] L h X && allWay m' (X + 2 * h)) := by
      rw [e, ← hm2, hL, hh]
      rfl
    refine ⟨_, rfl, _, rfl, _, _, rfl, rfl, a, _, _, _, rfl, rfl, hS, at_int (i := 3 * i + 2) (by omega) (by omega), ?_⟩
    refine ⟨_, rfl, _, rfl, a, _, _, _, rfl, rfl, hS, at_int (i := 3 * i) (by omega) (by omega), ?_⟩
    refine ⟨_, rfl, _, rfl, _, _, rfl, rfl, a, _, _, _, rfl, rfl, hS, at_int (i := 3 * i + 1) (by omega) (by omega), ?_⟩
    rw [hL, hh]
    refine ⟨_, rfl, _, rfl, _, _, _, _, rfl, (by omega), _, rfl, ?_⟩
    rw [way_along]
    cases d : wayI bs[3 * i] L h X with
    | false =>
      rw [d] at e'
      rw [e'] at q
      exact iteT q
    | true =>
      rw [d] at e'
      refine iteF ?_
      refine ⟨_, rfl, _, rfl, _, _, rfl, rfl, .inl ⟨by decide, by decide⟩, _, _, rfl, rfl, ?_⟩
      have z : ((X : Nat) : Int) + 2 * ((h : Nat) : Int) = ((X + 2 * h : Nat) : Int) := by omega
      refine ⟨some (.int (0 + (i : Nat) * 3)), some (.int (h : Nat)), X + 2 * h, m', ?_, rfl, rfl, e'⟩
      rw [← z]
      rfl
  · rintro σ H' ⟨u, v, X, m, rfl, rfl, hm, e⟩
    rw [List.drop_of_length_le (by omega)] at hm
    have hm' : [] = m := Option.some.inj hm
    rw [e, ← hm'] at q
    refine ⟨_, rfl, _, _, rfl, rfl, ?_⟩
    refine bl_of q ?_
    show decide (X ≤ 512) = _
    rw [Bool.eq_iff_iff]
    simp only [decide_eq_true_eq]
    omega
/-! ### least_side -/
def spLeast (K : PySem.W.Frag) : Sp := fun vs H Q _ => ∃ (p W : Nat) (a : Addr) (bs : List Int) (l : List (Int × Nat × Nat)), vs = [.int p, .int W, .ref a] ∧ SqL K H a (bs.map V.int) ∧ bs.length ≤ 1000 ∧ rows3 bs = some l ∧ 1 ≤ p ∧ p ≤ 512 ∧ 1 ≤ W ∧
  (∀ x : Nat, IsLeast (GoodSize l p W) x → Q (.int (x : Nat)) H) ∧ ((∀ x, x ≤ 512 → ¬ GoodSize l p W x) → Q .non H)
theorem scLeast : FnScope ["step", "least", "borders", "side"] ["step", "least", "borders"] (defScope sLeast) := ⟨rfl, rfl, rfl, by decide +kernel, rfl, by decide +kernel, by decide +kernel⟩
/-- between two multiples there is none -/
theorem mult_next {p i y : Nat} (hp : 1 ≤ p) (h : y % p = 0) (hy : y < (i + 2) * p) : y < (i + 1) * p ∨ y = (i + 1) * p := by
  obtain ⟨k, rfl⟩ := Nat.dvd_of_mod_eq_zero h
  rw [Nat.mul_comm p k] at hy ⊢
  have hk : k < i + 2 := Nat.lt_of_mul_lt_mul_right hy
  by_cases c : k < i + 1
  · exact .inl (Nat.mul_lt_mul_of_pos_right c hp)
  · have e : k = i + 1 := by omega
    rw [e]
    exact .inr rfl
theorem ok_least {t : Tok} {fA : Addr} {dA : FuncData} (F : Fun K "least_side" "least_side" sLeast f fd) (mr : mg "range" = none) (mS : mg "MOST_SIDE" = some (.int 512 t)) (B : Defs K P w mg base 2 "all_come_out" ["side", "borders"] (spAllO K) fA dA) :
    FnOk P w K mg base CX0 3 f fd ["step", "least", "borders"] (spLeast K) := by
  refine F.ok scLeast (fun vs H Q E h => ?_) (fun cdv A outer s H vs Q E hr h => ?_)
  · obtain ⟨p, W, a, bs, l, rfl, _⟩ := h
    rfl
  obtain ⟨p, W, a, bs, l, rfl, hS, small, hl, p1, p2, w1, qy, qn⟩ := h
  refine ⟨_, pss_cons (ps_for PassesOwn.never rfl (pi_range3 rfl mr (pn 0 (pa_cons (pe_op op_add (pe_gi rfl mS) pe_int) (pn 0 pa_nil)))) (pg_name (i := 3) scLeast.nd rfl (.inl rfl))
      (pss_one (ps_if (PW.pt (pw_and (pt_cmpR op_ge (pv 3) (pv 1) (nomark _)) (pw_and1 (pt_val (pe_call B.G hr rfl B.m B.kp B.b .nil pass0 (pn 3 (pn 2 pa_nil))))))) (pss_one (ps_ret (pv 3))) pss_nil)))
    (pss_one (ps_ret pe_non)), ?_⟩
  obtain ⟨n, hn, rg, top⟩ := rgc_mult p1 p2
  refine ⟨_, rfl, _, _, rfl, rfl, _, rfl, _, _, _, n, rfl, rg, for_rangeC (lo := (p : Int)) (c := (p : Int)) (n := n) (fun i σ H' => ∃ v : Option V, σ = [some (.int (p : Nat)), some (.int (W : Nat)), some (.ref a), v] ∧ H' = H ∧ ∀ y, y < (i + 1) * p → ¬ GoodSize l p W y)
    ⟨none, rfl, rfl, fun y hy z => ?_⟩ ?_ ?_⟩
  · have hw := z.1
    have m := z.2.1
    rw [Nat.zero_add, Nat.one_mul] at hy
    rw [Nat.mod_eq_of_lt hy] at m
    omega
  · rintro i σ H' hi ⟨v, rfl, rfl, no⟩
    have eS : (p : Int) + ((i : Nat) : Int) * (p : Int) = (((i + 1) * p : Nat) : Int) := by
      rw [Nat.succ_mul, Int.natCast_add, Int.natCast_mul, Int.add_comm]
    rw [eS]
    have nxt : ¬ GoodSize l p W ((i + 1) * p) → ∀ y, y < (i + 1 + 1) * p → ¬ GoodSize l p W y := fun ng y hy z => by
      rcases mult_next p1 z.2.1 hy with c | c
      · exact no y c z
      · rw [c] at z
        exact ng z
    refine ⟨_, rfl, _, rfl, _, _, rfl, rfl, _, rfl, ?_⟩
    by_cases c : W ≤ (i + 1) * p
    rotate_left
    · rw [decide_eq_false (show ¬ ((W : Nat) : Int) ≤ (((i + 1) * p : Nat) : Int) by omega)]
      exact iteF (iteF ⟨_, rfl, rfl, nxt fun z => c z.1⟩)
    rw [decide_eq_true (show ((W : Nat) : Int) ≤ (((i + 1) * p : Nat) : Int) by omega)]
    refine iteT ?_
    refine ⟨_, rfl, _, rfl, (i + 1) * p, a, bs, l, rfl, hS, small, hl, _, rfl, ?_⟩
    cases d : allWay l ((i + 1) * p) with
    | false => exact iteF ⟨_, rfl, rfl, nxt fun z => by have := z.2.2; rw [d] at this; cases this⟩
    | true => exact iteT ⟨_, rfl, qy _ ⟨⟨c, Nat.mul_mod_left _ _, d⟩, no⟩⟩
  · rintro σ H' ⟨v, rfl, rfl, no⟩
    exact qn fun x hx => no x (by omega)
/-! ### sizes -/
def spSizes (K : PySem.W.Frag) : Sp := fun vs H Q _ => ∃ (p q W Hh : Int) (a : Addr) (bs : List Int), vs = [.int p, .int q, .int W, .int Hh, .ref a] ∧ SqL K H a (bs.map V.int) ∧ bs.length ≤ 60 ∧ (∀ b ∈ bs, 0 ≤ b) ∧ 0 ≤ p ∧ 0 ≤ q ∧ 0 ≤ W ∧ 0 ≤ Hh ∧
  ∀ r H', H' r = some (.lst ((PyWqbbch.sizes p q W Hh bs).map V.int)) → Q (.ref r) H'
theorem scSizes : FnScope ["p", "q", "W", "H", "borders", "W0", "H0"] ["p", "q", "W", "H", "borders"] (defScope sSizes) := ⟨rfl, rfl, rfl, by decide +kernel, rfl, by decide +kernel, by decide +kernel⟩
theorem ok_sizes {t : Tok} {fS fA fL : Addr} {dS dA dL : FuncData} (F : Fun K "sizes" "sizes" sSizes f fd) (ml : mg "len" = none) (mM : mg "MOST_NUMBERS" = some (.int 48 t)) (S : Defs K P w mg base 1 "is_side" ["number"] spSide fS dS)
    (B : Defs K P w mg base 3 "are_borders" ["numbers"] (spAre K) fA dA) (L : Defs K P w mg base 3 "least_side" ["step", "least", "borders"] (spLeast K) fL dL) : FnOk P w K mg base CX0 4 f fd ["p", "q", "W", "H", "borders"] (spSizes K) := by
  refine F.ok scSizes (fun vs H Q E h => ?_) (fun cdv A outer s H vs Q E hr h => ?_)
  · obtain ⟨p, q, W, Hh, a, bs, rfl, _⟩ := h
    rfl
  obtain ⟨p, q, W, Hh, a, bs, rfl, hS, small, pos, p0, q0, w0, h0, qq⟩ := h
  have hr1 : Room 1 _ := hr.mono (by decide)
  refine ⟨_, pss_cons (ps_if (pt_cmpR op_gt (pe_callB call_len_seq rfl ml PySem.boot_len (pn 4 pa_nil)) (pe_gi rfl mM) (nomark _)) (pss_one (ps_ret (pe_lst (pa_cons (pe_un un_neg pe_int) pa_nil)))) pss_nil)
    (pss_cons (ps_if (PW.pt (pw_or (pt_not (pt_val (pe_call S.G hr1 rfl S.m S.kp S.b .nil pass0 (pn 0 pa_nil)))) (pw_or (pt_not (pt_val (pe_call S.G hr1 rfl S.m S.kp S.b .nil pass0 (pn 1 pa_nil)))) (pw_or (pt_not (pt_val (pe_call S.G hr1 rfl S.m S.kp S.b .nil pass0 (pn 2 pa_nil)))) (pw_or1 (pt_not (pt_val (pe_call S.G hr1 rfl S.m S.kp S.b .nil pass0 (pn 3 pa_nil)))))))))
      (pss_one (ps_ret (pe_lst (pa_cons (pe_un un_neg pe_int) pa_nil)))) pss_nil)
    (pss_cons (ps_if (pt_not (pt_val (pe_call B.G hr rfl B.m B.kp B.b .nil pass0 (pn 4 pa_nil)))) (pss_one (ps_ret (pe_lst (pa_cons (pe_un un_neg pe_int) pa_nil)))) pss_nil)
    (pss_cons (ps_set (i := 5) scSizes.nd rfl (.inl rfl) (pe_call L.G hr rfl L.m L.kp L.b .nil pass0 (pn 0 (pn 2 (pn 4 pa_nil)))))
    (pss_cons (ps_set (i := 6) scSizes.nd rfl (.inl rfl) (pe_call L.G hr rfl L.m L.kp L.b .nil pass0 (pn 1 (pn 3 (pn 4 pa_nil)))))
    (pss_cons (ps_if (PW.pt (pw_or (pt_cmpR op_isN (pv 5) pe_non (nomark _)) (pw_or1 (pt_cmpR op_isN (pv 6) pe_non (nomark _))))) (pss_one (ps_ret (pe_lst (pa_cons (pe_un un_neg pe_int) pa_nil)))) pss_nil)
    (pss_one (ps_ret (pe_lst (pa_cons pe_int (pn 5 (pn 6 pa_nil))))))))))), ?_⟩
  have one : (1 : Nat) ≤ sizeLine := by decide
  refine ⟨_, rfl, a, _, rfl, .inl hS, _, _, rfl, rfl, _, rfl, ?_⟩
  rw [List.length_map]
  by_cases c : 48 < bs.length
  · rw [decide_eq_true (show (48 : Int) < ((bs.length : Nat) : Int) by omega)]
    rw [sizes_long c] at qq
    exact iteT ⟨_, rfl, one, fun r hr => qq r _ upd_same⟩
  rw [decide_eq_false (show ¬ (48 : Int) < ((bs.length : Nat) : Int) by omega)]
  refine iteF ?_
  have bad : ¬ (sizesBounds p q W Hh = true ∧ (rows3 bs).isSome = true) → ∀ r, H r = none → Q (.ref r) (upd H r (.lst [.int (-1)])) := fun z r hr => by
    rw [sizes_bad c pos z] at qq
    exact qq r _ upd_same
  have out : sizesBounds p q W Hh = (sideZ p && (sideZ q && (sideZ W && sideZ Hh))) := rfl
  refine ⟨_, rfl, p, rfl, _, rfl, ?_⟩
  cases e1 : sideZ p with
  | false => exact iteT (iteT ⟨_, rfl, one, bad fun z => by rw [out, e1] at z; cases z.1⟩)
  | true =>
  refine iteF ?_
  refine ⟨_, rfl, q, rfl, _, rfl, ?_⟩
  cases e2 : sideZ q with
  | false => exact iteT (iteT ⟨_, rfl, one, bad fun z => by rw [out, e1, e2] at z; cases z.1⟩)
  | true =>
  refine iteF ?_
  refine ⟨_, rfl, W, rfl, _, rfl, ?_⟩
  cases e3 : sideZ W with
  | false => exact iteT (iteT ⟨_, rfl, one, bad fun z => by rw [out, e1, e2, e3] at z; cases z.1⟩)
  | true =>
  refine iteF ?_
  refine ⟨_, rfl, Hh, rfl, _, rfl, ?_⟩
  cases e4 : sideZ Hh with
  | false => exact iteT ⟨_, rfl, one, bad fun z => by rw [out, e1, e2, e3, e4] at z; cases z.1⟩
  | true =>
  refine iteF ?_
  have bd : sizesBounds p q W Hh = true := by rw [out, e1, e2, e3, e4] <;> rfl
  refine ⟨_, rfl, a, bs, rfl, hS, by omega, _, rfl, ?_⟩
  cases e5 : rows3 bs with
  | none => exact iteT ⟨_, rfl, one, bad fun z => by rw [e5] at z; cases z.2⟩
  | some l =>
  refine iteF ?_
  obtain ⟨d1, d2, d3⟩ := sizes_due c pos bd e5
  simp only [sideZ, Bool.and_eq_true, decide_eq_true_eq] at e1 e2 e3 e4
  obtain ⟨p, rfl⟩ : ∃ n : Nat, p = n := ⟨p.toNat, by omega⟩
  obtain ⟨q, rfl⟩ : ∃ n : Nat, q = n := ⟨q.toNat, by omega⟩
  obtain ⟨W, rfl⟩ : ∃ n : Nat, W = n := ⟨W.toNat, by omega⟩
  obtain ⟨Hh, rfl⟩ : ∃ n : Nat, Hh = n := ⟨Hh.toNat, by omega⟩
  simp only [Int.toNat_natCast] at d1 d2 d3
  refine ⟨_, rfl, _, rfl, _, rfl, p, W, a, bs, l, rfl, hS, by omega, e5, by omega, by omega, by omega, fun x hx => ?_, fun hx => ?_⟩
  · refine ⟨_, rfl, _, rfl, _, rfl, q, Hh, a, bs, l, rfl, hS, by omega, e5, by omega, by omega, by omega, fun y hy => ?_, fun hy => ?_⟩
    · refine ⟨_, rfl, rfl, _, rfl, ?_⟩
      rw [decide_eq_false (show ¬ V.int ((x : Nat) : Int) = V.non from fun z => by cases z)]
      refine iteF ?_
      refine ⟨_, rfl, rfl, _, rfl, ?_⟩
      rw [decide_eq_false (show ¬ V.int ((y : Nat) : Int) = V.non from fun z => by cases z)]
      refine iteF ?_
      refine ⟨_, rfl, _, rfl, (by show 3 ≤ sizeLine; decide), fun r hr => ?_⟩
      rw [d1 x y hx hy] at qq
      exact qq r _ upd_same
    · refine ⟨_, rfl, rfl, _, rfl, ?_⟩
      rw [decide_eq_false (show ¬ V.int ((x : Nat) : Int) = V.non from fun z => by cases z)]
      refine iteF ?_
      refine ⟨_, rfl, rfl, _, rfl, ?_⟩
      refine iteT ⟨_, rfl, one, fun r hr => ?_⟩
      rw [d3 hy] at qq
      exact qq r _ upd_same
  · have fin : ∀ v : V, ∀ r, H r = none → Q (.ref r) (upd H r (.lst [.int (-5)])) := fun _ r hr => by
      rw [d2 hx] at qq
      exact qq r _ upd_same
    refine ⟨_, rfl, _, rfl, _, rfl, q, Hh, a, bs, l, rfl, hS, by omega, e5, by omega, by omega, by omega, fun y hy => ?_, fun hy => ?_⟩
    · exact ⟨_, rfl, rfl, _, rfl, iteT (iteT ⟨_, rfl, one, fin .non⟩)⟩
    · exact ⟨_, rfl, rfl, _, rfl, iteT (iteT ⟨_, rfl, one, fin .non⟩)⟩
end
/-- the request and the answer -/
theorem request {K : PySem.W.Frag} {H : Hp} {xs : List V} {a : Codec.denoteAll PySem.Challenge.rw_rugborders_s07_sizes.args} (hwi : Codec.withinAll PySem.Challenge.rw_rugborders_s07_sizes.args a = true) (hx : DwAll K H xs (Codec.encAll PySem.Challenge.rw_rugborders_s07_sizes.args a)) :
    spSizes K xs H (fun v H' => Dw K H' v (PySem.Challenge.rw_rugborders_s07_sizes.ret.enc (Codec.app PySem.Challenge.rw_rugborders_s07_sizes.args PySem.Challenge.rw_rugborders_s07_sizes.f a))) (fun _ _ _ => False) := by
  obtain ⟨p, q, W, Hh, t, u⟩ := a
  have z : (Codec.inInt 0 4294967295 p && (Codec.inInt 0 4294967295 q && (Codec.inInt 0 4294967295 W && (Codec.inInt 0 4294967295 Hh && ((Codec.inLen 0 60 t && t.all (Codec.inInt 0 4294967295)) && true))))) = true := hwi
  simp only [Bool.and_eq_true] at z
  obtain ⟨q1, q2, q3, q4, ⟨q5, q6⟩, _⟩ := z
  cases hx with
  | cons h1 hx =>
  cases hx with
  | cons h2 hx =>
  cases hx with
  | cons h3 hx =>
  cases hx with
  | cons h4 hx =>
  cases hx with
  | cons h5 hx =>
  cases hx
  cases h1
  cases h2
  cases h3
  cases h4
  cases h5 with
  | lst s5 a5 =>
  have e5 := ints_dw t _ a5
  subst e5
  have hl : t.length ≤ 60 := by
    simp only [Codec.inLen, Codec.inNat, Bool.and_eq_true, decide_eq_true_eq] at q5
    omega
  exact ⟨p, q, W, Hh, _, t, rfl, s5, hl, fun b hb => (Codec.inInt_iff.mp (List.all_eq_true.mp q6 b hb)).1, (Codec.inInt_iff.mp q1).1, (Codec.inInt_iff.mp q2).1, (Codec.inInt_iff.mp q3).1, (Codec.inInt_iff.mp q4).1, fun r H' hr => .lst (SqL.of hr) (dw_ints _)⟩
theorem all_mk {P : Program} {w : World} {K : PySem.W.Frag} {h : Heap} {mg : Str → Option Value} {fa f0 f1 f2 f3 f4 f5 f6 f7 : Addr} (X : K.In h) (G : h.Ns mainGlobals mg) (hfa : mg "sizes" = some (.ref fa))
    {od0 an0 od1 an1 od2 an2 od3 an3 od4 an4 od5 an5 od6 an6 od7 an7 : Option Addr} {sl0 sl1 sl2 sl3 sl4 sl5 sl6 sl7 : Array (Option Value)} {oc0 kV0 dc0 pm0 cd0 ct0 oc1 kV1 dc1 pm1 cd1 ct1 oc2 kV2 dc2 pm2 cd2 ct2 oc3 kV3 dc3 pm3 cd3 ct3 oc4 kV4 dc4 pm4 cd4 ct4 oc5 kV5 dc5 pm5 cd5 ct5 oc6 kV6 dc6 pm6 cd6 ct6 oc7 kV7 dc7 pm7 cd7 ct7 : Value} {t0 t1 t2 t3 t4 t5 t6 : Tok}
    (a0 : PySem.W.nsIn K mainGlobals "is_side" = some (some (.ref f0))) (l0 : K.lookup f0 = some ⟨oc0, od0, .func (PySem.W.fnOf "is_side" "is_side" (defArgs sSide) (defBody sSide) (defScope sSide) .none kV0 dc0 pm0 an0 cd0 ct0), sl0⟩) (c0 : PySem.W.codeIn K cd0 "is_side" = true) (k0 : PySem.W.keepIn K (.ref f0) = true)
    (a1 : PySem.W.nsIn K mainGlobals "is_depth" = some (some (.ref f1))) (l1 : K.lookup f1 = some ⟨oc1, od1, .func (PySem.W.fnOf "is_depth" "is_depth" (defArgs sDep) (defBody sDep) (defScope sDep) .none kV1 dc1 pm1 an1 cd1 ct1), sl1⟩) (c1 : PySem.W.codeIn K cd1 "is_depth" = true) (k1 : PySem.W.keepIn K (.ref f1) = true)
    (a2 : PySem.W.nsIn K mainGlobals "is_border" = some (some (.ref f2))) (l2 : K.lookup f2 = some ⟨oc2, od2, .func (PySem.W.fnOf "is_border" "is_border" (defArgs sBord) (defBody sBord) (defScope sBord) .none kV2 dc2 pm2 an2 cd2 ct2), sl2⟩) (c2 : PySem.W.codeIn K cd2 "is_border" = true) (k2 : PySem.W.keepIn K (.ref f2) = true)
    (a3 : PySem.W.nsIn K mainGlobals "are_borders" = some (some (.ref f3))) (l3 : K.lookup f3 = some ⟨oc3, od3, .func (PySem.W.fnOf "are_borders" "are_borders" (defArgs sAre) (defBody sAre) (defScope sAre) .none kV3 dc3 pm3 an3 cd3 ct3), sl3⟩) (c3 : PySem.W.codeIn K cd3 "are_borders" = true) (k3 : PySem.W.keepIn K (.ref f3) = true)
    (a4 : PySem.W.nsIn K mainGlobals "comes_out_along" = some (some (.ref f4))) (l4 : K.lookup f4 = some ⟨oc4, od4, .func (PySem.W.fnOf "comes_out_along" "comes_out_along" (defArgs sAlong) (defBody sAlong) (defScope sAlong) .none kV4 dc4 pm4 an4 cd4 ct4), sl4⟩) (c4 : PySem.W.codeIn K cd4 "comes_out_along" = true) (k4 : PySem.W.keepIn K (.ref f4) = true)
    (a5 : PySem.W.nsIn K mainGlobals "all_come_out" = some (some (.ref f5))) (l5 : K.lookup f5 = some ⟨oc5, od5, .func (PySem.W.fnOf "all_come_out" "all_come_out" (defArgs sAllO) (defBody sAllO) (defScope sAllO) .none kV5 dc5 pm5 an5 cd5 ct5), sl5⟩) (c5 : PySem.W.codeIn K cd5 "all_come_out" = true) (k5 : PySem.W.keepIn K (.ref f5) = true)
    (a6 : PySem.W.nsIn K mainGlobals "least_side" = some (some (.ref f6))) (l6 : K.lookup f6 = some ⟨oc6, od6, .func (PySem.W.fnOf "least_side" "least_side" (defArgs sLeast) (defBody sLeast) (defScope sLeast) .none kV6 dc6 pm6 an6 cd6 ct6), sl6⟩) (c6 : PySem.W.codeIn K cd6 "least_side" = true) (k6 : PySem.W.keepIn K (.ref f6) = true)
    (a7 : PySem.W.nsIn K mainGlobals "sizes" = some (some (.ref f7))) (l7 : K.lookup f7 = some ⟨oc7, od7, .func (PySem.W.fnOf "sizes" "sizes" (defArgs sSizes) (defBody sSizes) (defScope sSizes) .none kV7 dc7 pm7 an7 cd7 ct7), sl7⟩) (c7 : PySem.W.codeIn K cd7 "sizes" = true) (k7 : PySem.W.keepIn K (.ref f7) = true)
    (u0 : PySem.W.nsIn K mainGlobals "MOST_SIDE" = some (some (.int 512 t0)))
    (u1 : PySem.W.nsIn K mainGlobals "SET" = some (some (.int 0 t1)))
    (u2 : PySem.W.nsIn K mainGlobals "MET" = some (some (.int 1 t2)))
    (u3 : PySem.W.nsIn K mainGlobals "RUN" = some (some (.int 2 t3)))
    (u4 : PySem.W.nsIn K mainGlobals "MOST_DEPTH" = some (some (.int 128 t4)))
    (u5 : PySem.W.nsIn K mainGlobals "NUMBERS_OF_BORDER" = some (some (.int 3 t5)))
    (u6 : PySem.W.nsIn K mainGlobals "MOST_NUMBERS" = some (some (.int 48 t6)))
    (z0 : PySem.W.nsIn K mainGlobals "len" = some none)
    (z1 : PySem.W.nsIn K mainGlobals "range" = some none) :
    ∃ fd : FuncData, (∀ (s : Shared) (us : List Value), us.length = (["p", "q", "W", "H", "borders"] : List Str).length → BindsTo s fd ⟨us, []⟩ ((["p", "q", "W", "H", "borders"] : List Str).zip us)) ∧ ∀ base : Heap, K.In base → base.Ns mainGlobals mg → FnOk P w K mg base CX0 4 fa fd ["p", "q", "W", "H", "borders"] (spSizes K) := by
  have e := hfa.symm.trans (PySem.W.mg_of X G a7)
  cases e
  have F0 := fun_mk (st := sSide) l0 c0 k0
  have m0 := PySem.W.mg_of X G a0
  have F1 := fun_mk (st := sDep) l1 c1 k1
  have m1 := PySem.W.mg_of X G a1
  have F2 := fun_mk (st := sBord) l2 c2 k2
  have m2 := PySem.W.mg_of X G a2
  have F3 := fun_mk (st := sAre) l3 c3 k3
  have m3 := PySem.W.mg_of X G a3
  have F4 := fun_mk (st := sAlong) l4 c4 k4
  have m4 := PySem.W.mg_of X G a4
  have F5 := fun_mk (st := sAllO) l5 c5 k5
  have m5 := PySem.W.mg_of X G a5
  have F6 := fun_mk (st := sLeast) l6 c6 k6
  have m6 := PySem.W.mg_of X G a6
  have F7 := fun_mk (st := sSizes) l7 c7 k7
  have m7 := PySem.W.mg_of X G a7
  have v_MOST_SIDE := PySem.W.mg_of X G u0
  have v_SET := PySem.W.mg_of X G u1
  have v_MET := PySem.W.mg_of X G u2
  have v_RUN := PySem.W.mg_of X G u3
  have v_MOST_DEPTH := PySem.W.mg_of X G u4
  have v_NUMBERS_OF_BORDER := PySem.W.mg_of X G u5
  have v_MOST_NUMBERS := PySem.W.mg_of X G u6
  have n_len := PySem.W.mg_none_of X G z0
  have n_range := PySem.W.mg_none_of X G z1
  refine ⟨PySem.W.fnOf "sizes" "sizes" (defArgs sSizes) (defBody sSizes) (defScope sSizes) .none kV7 dc7 pm7 an7 cd7 ct7, fun s us hu => match us, hu with | [_, _, _, _, _], _ => .of_eq rfl, fun base _ _ => ?_⟩
  have b0 := F0.binds (ps := ["number"]) fun _ _ _ _ _ _ us hl => match us, hl with | [_], _ => rfl
  have b1 := F1.binds (ps := ["h"]) fun _ _ _ _ _ _ us hl => match us, hl with | [_], _ => rfl
  have b2 := F2.binds (ps := ["kind", "L", "h"]) fun _ _ _ _ _ _ us hl => match us, hl with | [_, _, _], _ => rfl
  have b3 := F3.binds (ps := ["numbers"]) fun _ _ _ _ _ _ us hl => match us, hl with | [_], _ => rfl
  have b4 := F4.binds (ps := ["kind", "L", "h", "side"]) fun _ _ _ _ _ _ us hl => match us, hl with | [_, _, _, _], _ => rfl
  have b5 := F5.binds (ps := ["side", "borders"]) fun _ _ _ _ _ _ us hl => match us, hl with | [_, _], _ => rfl
  have b6 := F6.binds (ps := ["step", "least", "borders"]) fun _ _ _ _ _ _ us hl => match us, hl with | [_, _, _], _ => rfl
  have D0 : Defs K P w mg base _ "is_side" _ _ _ _ := ⟨ok_side (P := P) (w := w) (base := base) F0 v_MOST_SIDE, b0, k0, m0⟩
  have D1 : Defs K P w mg base _ "is_depth" _ _ _ _ := ⟨ok_dep (P := P) (w := w) (base := base) F1 v_MOST_DEPTH, b1, k1, m1⟩
  have D2 : Defs K P w mg base _ "is_border" _ _ _ _ := ⟨ok_bord (P := P) (w := w) (base := base) F2 v_RUN D0 D1, b2, k2, m2⟩
  have D3 : Defs K P w mg base _ "are_borders" _ _ _ _ := ⟨ok_are (P := P) (w := w) (base := base) F3 n_len n_range v_NUMBERS_OF_BORDER D2, b3, k3, m3⟩
  have D4 : Defs K P w mg base _ "comes_out_along" _ _ _ _ := ⟨ok_along (P := P) (w := w) (base := base) F4 v_SET v_MET, b4, k4, m4⟩
  have D5 : Defs K P w mg base _ "all_come_out" _ _ _ _ := ⟨ok_allO (P := P) (w := w) (base := base) F5 n_len n_range v_NUMBERS_OF_BORDER v_MOST_SIDE D4, b5, k5, m5⟩
  have D6 : Defs K P w mg base _ "least_side" _ _ _ _ := ⟨ok_least (P := P) (w := w) (base := base) F6 n_range v_MOST_SIDE D5, b6, k6, m6⟩
  exact ok_sizes F7 n_len v_MOST_NUMBERS D0 D3 D6
end RH
open PySem PySem.W PyProof.Rows
set_option maxRecDepth 100000 in
set_option maxHeartbeats 8000000 in
theorem PySem.Challenge.cw_rugborders_s07_sizes_holds : PySem.Challenge.rw_rugborders_s07_sizes.Holds := by
  w_on; k_headS; (case hw => exact ⟨[.int 0, .int 0, .int 0, .int 0, .list []], by decide +kernel, by decide +kernel⟩)
  k_fillS
  refine L2.walk_specK (r := PySem.Challenge.rw_rugborders_s07_sizes) (k := 4) (CX := L2.CX0) (ps := ["p", "q", "W", "H", "borders"]) (sp := RH.spSizes) (by decide +kernel) rfl rfl ⟨rfl, by decide, by decide⟩ (fun w h Y => PySem.W.kIn_of Y) ?F ?S (fun _ _ _ _ z => z)
  case F =>
    intro w mg fa h Y KX G hmg
    refine' RH.all_mk KX G hmg ?a0 ?l0 ?c0 ?k0 ?a1 ?l1 ?c1 ?k1 ?a2 ?l2 ?c2 ?k2 ?a3 ?l3 ?c3 ?k3 ?a4 ?l4 ?c4 ?k4 ?a5 ?l5 ?c5 ?k5 ?a6 ?l6 ?c6 ?k6 ?a7 ?l7 ?c7 ?k7 ?u0 ?u1 ?u2 ?u3 ?u4 ?u5 ?u6 ?z0 ?z1
    (case a0 => k_is)
    (case l0 => k_is)
    (case c0 => k_is)
    (case k0 => k_is)
    (case a1 => k_is)
    (case l1 => k_is)
    (case c1 => k_is)
    (case k1 => k_is)
    (case a2 => k_is)
    (case l2 => k_is)
    (case c2 => k_is)
    (case k2 => k_is)
    (case a3 => k_is)
    (case l3 => k_is)
    (case c3 => k_is)
    (case k3 => k_is)
    (case a4 => k_is)
    (case l4 => k_is)
    (case c4 => k_is)
    (case k4 => k_is)
    (case a5 => k_is)
    (case l5 => k_is)
    (case c5 => k_is)
    (case k5 => k_is)
    (case a6 => k_is)
    (case l6 => k_is)
    (case c6 => k_is)
    (case k6 => k_is)
    (case a7 => k_is)
    (case l7 => k_is)
    (case c7 => k_is)
    (case k7 => k_is)
    (case u0 => k_is)
    (case u1 => k_is)
    (case u2 => k_is)
    (case u3 => k_is)
    (case u4 => k_is)
    (case u5 => k_is)
    (case u6 => k_is)
    (case z0 => k_is)
    (case z1 => k_is)
  case S =>
    intro K H xs a hO hwi hask hx
    exact RH.request hwi hx
