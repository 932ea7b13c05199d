import PyProof.Rows.All
import Wide.All
import OpenK.AllK
import Wide.FinOn
import Open.SpecLaws
import KE.OsGo
import HandS.ForSpec
import HandS.Flow
import HandS.Comp
import HandS.Iter
import HandS.Walk
import PySem.Challenge.RW_rugborders_s05_found
set_option Elab.async false
set_option linter.all false
set_option maxRecDepth 100000
set_option maxHeartbeats 4000000
namespace RM
open Wqbbch
/-! ### a chart's text -/
def bi (k : Nat) : Int := ((byteOf k).toNat : Int)
def encRows (rows : List (List Nat)) : List (List Int) := rows.map fun r => r.map bi
def enc (c : Chart) : List (List Int) := encRows c.rows
def flat (rows : List (List Int)) : List Int := rows.flatMap fun r => r ++ [10]
def isCol (b : Int) : Bool := (decide (97 ≤ b) && decide (b ≤ 122)) || ((decide (65 ≤ b) && decide (b ≤ 90)) || (decide (48 ≤ b) && decide (b ≤ 57)))
def dec (b : Int) : Nat := ((List.range 62).find? fun k => decide (bi k = b)).getD 0
theorem bi_col : ∀ k, k < 62 → isCol (bi k) = true ∧ bi k ≠ 10 := by decide +kernel
theorem col_dec0 : ∀ n : Nat, n < 128 → isCol (n : Int) = true → dec (n : Int) < 62 ∧ bi (dec (n : Int)) = (n : Int) := by decide +kernel
theorem col_range {b : Int} (h : isCol b = true) : 48 ≤ b ∧ b ≤ 122 := by
  simp only [isCol, Bool.or_eq_true, Bool.and_eq_true, decide_eq_true_eq] at h
  omega
theorem col_dec {b : Int} (h : isCol b = true) : dec b < 62 ∧ bi (dec b) = b := by
  have r := col_range h
  have e : b = ((b.toNat : Nat) : Int) := by omega
  have q := col_dec0 b.toNat (by omega) (by rw [← e]; exact h)
  rw [← e] at q
  exact q
theorem colour_byte : ∀ k, k < 62 → colourOf (byteOf k) = some k := by decide +kernel
theorem byte_lf : ∀ k, k < 62 → byteOf k ≠ LF := by decide +kernel
/-! ### the reading loop -/
def parseGo : List Int → List (List Int) → List Int → Option (List (List Int) × List Int)
  | [], rows, row => some (rows, row)
  | b :: r, rows, row => if b = 10 then parseGo r (rows ++ [row]) [] else if isCol b = true then parseGo r rows (row ++ [b]) else none
def sizeOkI (w h : Nat) : Bool := decide (1 ≤ w) && decide (w ≤ 512) && (decide (1 ≤ h) && decide (h ≤ 512)) && decide (w * h ≤ 65536)
def wideOf (rows : List (List Int)) : Nat := (rows.headD []).length
def isChart (rows : List (List Int)) : Bool := !rows.isEmpty && rows.all (fun r => decide (r.length = wideOf rows)) && sizeOkI (wideOf rows) rows.length
def parse (ns : List Int) : Option (List (List Int)) := match parseGo ns [] [] with
  | none => none
  | some (rows, row) => if row = [] ∧ isChart rows = true then some rows else none
def allCol (r : List Int) : Prop := ∀ b ∈ r, isCol b = true
theorem parse_row : ∀ (r : List Int) (rest : List Int) (rows : List (List Int)) (row : List Int), allCol r → parseGo (r ++ 10 :: rest) rows row = parseGo rest (rows ++ [row ++ r]) []
  | [], rest, rows, row, _ => by
    show (if (10 : Int) = 10 then parseGo rest (rows ++ [row]) [] else _) = _
    rw [if_pos rfl, List.append_nil]
  | b :: r, rest, rows, row, h => by
    have hb : isCol b = true := h b (List.mem_cons_self ..)
    have nb : b ≠ 10 := by have := col_range hb; omega
    show (if b = 10 then parseGo (r ++ 10 :: rest) (rows ++ [row]) [] else if isCol b = true then parseGo (r ++ 10 :: rest) rows (row ++ [b]) else none) = _
    rw [if_neg nb, if_pos hb, parse_row r rest rows (row ++ [b]) fun x hx => h x (List.mem_cons_of_mem _ hx), List.append_assoc] <;> rfl
theorem parse_flat : ∀ (l rows : List (List Int)), (∀ r ∈ l, allCol r) → parseGo (flat l) rows [] = some (rows ++ l, [])
  | [], rows, _ => by
    show some (rows, []) = _
    rw [List.append_nil]
  | r :: l, rows, h => by
    have e : flat (r :: l) = r ++ 10 :: flat l := by simp [flat]
    rw [e, parse_row _ _ _ _ (h r (List.mem_cons_self ..)), parse_flat l _ fun x hx => h x (List.mem_cons_of_mem _ hx)]
    simp
theorem parse_inv : ∀ (ns : List Int) (rows : List (List Int)) (row : List Int) (R : List (List Int)) (q : List Int), parseGo ns rows row = some (R, q) → (∀ r ∈ rows, allCol r) → allCol row → (∀ r ∈ R, allCol r) ∧ allCol q ∧ flat R ++ q = flat rows ++ row ++ ns
  | [], rows, row, R, q, e, h1, h2 => by
    have e' : (rows, row) = (R, q) := Option.some.inj e
    cases e'
    exact ⟨h1, h2, by rw [List.append_nil]⟩
  | b :: r, rows, row, R, q, e, h1, h2 => by
    have e' : (if b = 10 then parseGo r (rows ++ [row]) [] else if isCol b = true then parseGo r rows (row ++ [b]) else none) = some (R, q) := e
    by_cases hb : b = 10
    · rw [if_pos hb] at e'
      have z := parse_inv r _ _ R q e' (by
        intro x hx
        rcases List.mem_append.mp hx with hx | hx
        · exact h1 x hx
        · rw [List.mem_singleton] at hx
          rw [hx]; exact h2) (by intro x hx; cases hx)
      refine ⟨z.1, z.2.1, z.2.2.trans ?_⟩
      subst hb
      simp [flat]
    · rw [if_neg hb] at e'
      by_cases hc : isCol b = true
      · rw [if_pos hc] at e'
        have z := parse_inv r _ _ R q e' h1 (by
          intro x hx
          rcases List.mem_append.mp hx with hx | hx
          · exact h2 x hx
          · rw [List.mem_singleton] at hx
            rw [hx]; exact hc)
        refine ⟨z.1, z.2.1, z.2.2.trans ?_⟩
        simp
      · rw [if_neg hc] at e'
        cases e'
/-! ### charts of the specification -/
theorem right_iff {c : Chart} : c.right = true ↔ (1 ≤ c.wide ∧ c.wide ≤ 512 ∧ 1 ≤ c.high ∧ c.high ≤ 512) ∧ c.wide * c.high ≤ 65536 ∧ c.rows.length = c.high ∧ ∀ r ∈ c.rows, r.length = c.wide ∧ ∀ k ∈ r, k < 62 := by
  simp only [Chart.right, sizeOk, Bool.and_eq_true, decide_eq_true_eq, List.all_eq_true]
  exact Iff.rfl
theorem cut_row : ∀ (r : List UInt8) (rest : List UInt8) (p : Nat) (w : List UInt8), (∀ b ∈ r, b ≠ LF) → cut LF p w (r ++ LF :: rest) = (p, w ++ r) :: cut LF (p + (w ++ r).length + 1) [] rest
  | [], rest, p, w, _ => by
    show (if LF = LF then _ else _) = _
    rw [if_pos rfl, List.append_nil]
  | b :: r, rest, p, w, h => by
    show (if b = LF then _ else cut LF p (w ++ [b]) (r ++ LF :: rest)) = _
    rw [if_neg (h b (List.mem_cons_self ..)), cut_row r rest p (w ++ [b]) fun x hx => h x (List.mem_cons_of_mem _ hx), List.append_assoc]
    rfl
theorem cut_text : ∀ (rows : List (List Nat)) (p : Nat), (∀ r ∈ rows, ∀ k ∈ r, k < 62) → ∃ q, (cut LF p [] (rows.flatMap fun (r : List Nat) => r.map byteOf ++ [LF])).map (fun (x : Nat × List UInt8) => x.2.map colourOf) = rows.map (fun r => r.map some) ++ [q]
  | [], p, _ => ⟨[], rfl⟩
  | r :: rows, p, h => by
    have e : ((r :: rows).flatMap fun (r : List Nat) => r.map byteOf ++ [LF]) = r.map byteOf ++ LF :: (rows.flatMap fun (r : List Nat) => r.map byteOf ++ [LF]) := by simp
    obtain ⟨q, hq⟩ := cut_text rows (p + ([] ++ r.map byteOf).length + 1) fun x hx => h x (List.mem_cons_of_mem _ hx)
    refine ⟨q, ?_⟩
    rw [e, cut_row _ _ _ _ (by
      intro b hb
      obtain ⟨k, hk, rfl⟩ := List.mem_map.mp hb
      exact byte_lf k (h r (List.mem_cons_self ..) k hk)), List.map_cons, hq]
    have z : ([] ++ r.map byteOf).map colourOf = r.map some := by
      rw [List.nil_append, List.map_map]
      exact List.map_congr_left fun k hk => colour_byte k (h r (List.mem_cons_self ..) k hk)
    show ([] ++ r.map byteOf).map colourOf :: _ = _
    rw [z] <;> rfl
theorem unsome : ∀ r : List Nat, (r.map some).filterMap id = r
  | [] => rfl
  | k :: r => by
    show k :: (r.map some).filterMap id = k :: r
    rw [unsome r]
theorem chart_text {c : Chart} (h : c.right = true) : chartOf c.text = some c := by
  obtain ⟨h1, h2, h3, h4⟩ := right_iff.mp h
  obtain ⟨q, hq⟩ := cut_text c.rows 0 fun r hr => (h4 r hr).2
  have hl : ((cut LF 0 [] c.text).map fun (x : Nat × List UInt8) => x.2.map colourOf).dropLast = c.rows.map fun r => r.map some := by
    show ((cut LF 0 [] (c.rows.flatMap fun (r : List Nat) => r.map byteOf ++ [LF])).map fun (x : Nat × List UInt8) => x.2.map colourOf).dropLast = _
    rw [hq, List.dropLast_concat]
  have hr : (c.rows.map fun r => r.map some).map (fun (r : List (Option Nat)) => r.filterMap id) = c.rows := by
    rw [List.map_map]
    conv => rhs; rw [← List.map_id c.rows]
    exact List.map_congr_left fun r _ => unsome r
  have hw : ((c.rows.map fun r => r.map some).headD []).length = c.wide := by
    cases e : c.rows with
    | nil => rw [e] at h3; have h3' : 0 = c.high := h3; omega
    | cons r l =>
      show (r.map some).length = _
      rw [List.length_map]
      exact (h4 r (by rw [e]; exact List.mem_cons_self ..)).1
  unfold chartOf
  simp only [hl]
  rw [hw, hr, List.length_map, h3]
  exact if_pos ⟨h, rfl⟩
theorem text_flat (rows : List (List Nat)) : RugDNeutral.text (flat (encRows rows)) = rows.flatMap fun (r : List Nat) => r.map byteOf ++ [LF] := by
  induction rows with
  | nil => rfl
  | cons r l ih =>
    have e : flat (encRows (r :: l)) = r.map bi ++ 10 :: flat (encRows l) := by simp [flat, encRows]
    rw [e]
    have t : ∀ a b, RugDNeutral.text (a ++ b) = RugDNeutral.text a ++ RugDNeutral.text b := by
      intro a b
      simp [RugDNeutral.text, RugDNeutral.nats]
    rw [t]
    have t2 : RugDNeutral.text (10 :: flat (encRows l)) = LF :: RugDNeutral.text (flat (encRows l)) := rfl
    rw [t2, ih]
    have t3 : RugDNeutral.text (r.map bi) = r.map byteOf := by
      show (((r.map bi).map Int.toNat).map UInt8.ofNat) = _
      rw [List.map_map, List.map_map]
      refine List.map_congr_left fun k _ => ?_
      show UInt8.ofNat (((byteOf k).toNat : Int).toNat) = byteOf k
      rw [Int.toNat_natCast, UInt8.ofNat_toNat]
    rw [t3]
    simp
def bytesOk (ns : List Int) : Prop := ∀ b ∈ ns, 0 ≤ b ∧ b ≤ 255
theorem text_back {ns : List Int} (h : bytesOk ns) : (RugDNeutral.text ns).map (fun c => ((c.toNat : Nat) : Int)) = ns := by
  show (((ns.map Int.toNat).map UInt8.ofNat).map _) = _
  rw [List.map_map, List.map_map]
  conv => rhs; rw [← List.map_id ns]
  refine List.map_congr_left fun b hb => ?_
  show (((UInt8.ofNat b.toNat).toNat : Nat) : Int) = b
  have := h b hb
  rw [UInt8.toNat_ofNat']
  omega
theorem flat_bytes (rows : List (List Nat)) : (rows.flatMap fun (r : List Nat) => r.map byteOf ++ [LF]).map (fun c => ((c.toNat : Nat) : Int)) = flat (encRows rows) := by
  induction rows with
  | nil => rfl
  | cons r l ih =>
    have e : flat (encRows (r :: l)) = r.map bi ++ 10 :: flat (encRows l) := by simp [flat, encRows]
    rw [e, ← ih]
    simp [bi, LF]
theorem enc_col {c : Chart} (h : c.right = true) : ∀ r ∈ enc c, allCol r := by
  intro r hr b hb
  obtain ⟨s, hs, rfl⟩ := List.mem_map.mp hr
  obtain ⟨k, hk, rfl⟩ := List.mem_map.mp hb
  exact (bi_col k (((right_iff.mp h).2.2.2 s hs).2 k hk)).1
theorem enc_wide {c : Chart} (h : c.right = true) : wideOf (enc c) = c.wide := by
  obtain ⟨h1, h2, h3, h4⟩ := right_iff.mp h
  unfold wideOf enc encRows
  cases e : c.rows with
  | nil => rw [e] at h3; have h3' : 0 = c.high := h3; omega
  | cons r l =>
    show (r.map bi).length = _
    rw [List.length_map]
    exact (h4 r (by rw [e]; exact List.mem_cons_self ..)).1
theorem enc_high {c : Chart} (h : c.right = true) : (enc c).length = c.high := by
  rw [enc, encRows, List.length_map]
  exact (right_iff.mp h).2.2.1
theorem enc_chart {c : Chart} (h : c.right = true) : isChart (enc c) = true := by
  obtain ⟨h1, h2, h3, h4⟩ := right_iff.mp h
  have e1 := enc_wide h
  have e2 := enc_high h
  unfold isChart
  rw [e1, e2]
  simp only [sizeOkI, Bool.and_eq_true, decide_eq_true_eq, List.all_eq_true]
  refine ⟨⟨?_, ?_⟩, ⟨⟨⟨h1.1, h1.2.1⟩, h1.2.2⟩, h2⟩⟩
  · cases e : enc c with
    | nil => rw [e] at e2; have e2' : 0 = c.high := e2; omega
    | cons => rfl
  · intro r hr
    obtain ⟨s, hs, rfl⟩ := List.mem_map.mp hr
    rw [List.length_map]
    exact (h4 s hs).1
theorem parse_of_right {c : Chart} (h : c.right = true) : parse (flat (enc c)) = some (enc c) := by
  unfold parse
  rw [parse_flat _ _ (enc_col h)]
  exact if_pos ⟨rfl, by rw [List.nil_append]; exact enc_chart h⟩
theorem parse_some {ns : List Int} {rows : List (List Int)} (e : parse ns = some rows) : ∃ c : Chart, chartOf (RugDNeutral.text ns) = some c ∧ c.right = true ∧ rows = enc c := by
  unfold parse at e
  cases e1 : parseGo ns [] [] with
  | none => rw [e1] at e; cases e
  | some p =>
    obtain ⟨R, q⟩ := p
    rw [e1] at e
    have e' : (if q = [] ∧ isChart R = true then some R else none) = some rows := e
    by_cases hc : q = [] ∧ isChart R = true
    · rw [if_pos hc] at e'
      cases e'
      obtain ⟨hq, hch⟩ := hc
      subst hq
      obtain ⟨z1, _, z3⟩ := parse_inv ns [] [] rows [] e1 (by intro r hr; cases hr) (by intro r hr; cases hr)
      have z3' : flat rows = ns := by simpa [flat] using z3
      have back : encRows (rows.map fun r => r.map dec) = rows := by
        unfold encRows
        rw [List.map_map]
        conv => rhs; rw [← List.map_id rows]
        refine List.map_congr_left fun r hr => ?_
        show (r.map dec).map bi = r
        rw [List.map_map]
        conv => rhs; rw [← List.map_id r]
        exact List.map_congr_left fun b hb => (col_dec (z1 r hr b hb)).2
      have hch' := hch
      simp only [isChart, sizeOkI, Bool.and_eq_true, decide_eq_true_eq, List.all_eq_true] at hch'
      obtain ⟨⟨_, ha⟩, ⟨⟨hw1, hw2⟩, hh⟩, hk⟩ := hch'
      let c : Chart := ⟨wideOf rows, rows.length, rows.map fun r => r.map dec⟩
      have hr : c.right = true := by
        refine right_iff.mpr ⟨⟨hw1, hw2, hh⟩, hk, List.length_map _, ?_⟩
        intro r hr
        obtain ⟨s, hs, rfl⟩ := List.mem_map.mp hr
        refine ⟨by rw [List.length_map]; exact ha s hs, ?_⟩
        intro k hk
        obtain ⟨b, hb, rfl⟩ := List.mem_map.mp hk
        exact (col_dec (z1 s hs b hb)).1
      refine ⟨c, ?_, hr, back.symm⟩
      have ht : c.text = RugDNeutral.text ns := by
        rw [← z3', ← back]
        exact (text_flat _).symm
      rw [← ht]
      exact chart_text hr
    · rw [if_neg hc] at e'
      cases e'
theorem parse_none {ns : List Int} (hb : bytesOk ns) (e : parse ns = none) : chartOf (RugDNeutral.text ns) = none := by
  cases h : chartOf (RugDNeutral.text ns) with
  | none => rfl
  | some c =>
    have q : c.right = true ∧ c.text = RugDNeutral.text ns := by
      unfold chartOf at h
      simp only at h
      split at h
      · rename_i hh
        cases h
        exact hh
      · cases h
    have z : ns = flat (enc c) := by
      rw [← text_back hb, ← q.2]
      exact flat_bytes c.rows
    rw [z, parse_of_right q.1] at e
    cases e
end RM
namespace RM
open Wqbbch
/-! ### what a knot of the rug is -/
def told3 : From → Nat × Nat × Nat
  | .field i j => (0, i, j)
  | .strip i j => (1, i, j)
  | .corner i j => (2, i, j)
def seen (h W H x y : Nat) : Nat × Nat :=
  if x < W + h ∧ y < h then (x, y) else if W + h ≤ x ∧ y < H + h then (y, W + 2 * h - 1 - x) else if h ≤ x ∧ H + h ≤ y then (W + 2 * h - 1 - x, H + 2 * h - 1 - y) else (H + 2 * h - 1 - y, x)
def knot (k : Kind) (L h W H x y : Nat) : Nat × Nat × Nat :=
  if h ≤ x ∧ x < W + h ∧ h ≤ y ∧ y < H + h then (0, x - h, y - h) else match k with
    | .met => (1, max (min x (W + 2 * h - 1 - x)) (min y (H + 2 * h - 1 - y)) % L, min (min x (W + 2 * h - 1 - x)) (min y (H + 2 * h - 1 - y)))
    | .run => (1, (seen h W H x y).1 % L, (seen h W H x y).2)
    | .set => if (seen h W H x y).1 < h then (2, (seen h W H x y).1, (seen h W H x y).2) else (1, ((seen h W H x y).1 - h) % L, (seen h W H x y).2)
theorem s3 {a b c : Nat} {i j : Nat} (h1 : b = i) (h2 : c = j) : (a, b, c) = (a, i, j) := by rw [h1, h2]
theorem knot_is (k : Kind) (L h W H x y : Nat) (hx : x < W + 2 * h) (hy : y < H + 2 * h) (hW : 1 ≤ W) (hH : 1 ≤ H) (hh : 1 ≤ h) : told3 (fromOf k L h W H x y) = knot k L h W H x y := by
  unfold fromOf knot
  by_cases c : h ≤ x ∧ x < W + h ∧ h ≤ y ∧ y < H + h
  · rw [if_pos c]
    simp only
    rw [if_pos (by omega)]
    rfl
  · rw [if_neg c]
    simp only
    rw [if_neg (by omega)]
    cases k with
    | met => rfl
    | run =>
      simp only [seen]
      by_cases c1 : x < W + h ∧ y < h
      · rw [if_pos c1, if_pos c1]; rfl
      · rw [if_neg c1, if_neg c1]
        by_cases c2 : W + h ≤ x ∧ y < H + h
        · rw [if_pos c2, if_pos c2]; rfl
        · rw [if_neg c2, if_neg c2]
          by_cases c3 : h ≤ x ∧ H + h ≤ y
          · rw [if_pos c3, if_pos c3]; rfl
          · rw [if_neg c3, if_neg c3]; rfl
    | set =>
      simp only
      by_cases c1 : x < W + h ∧ y < h
      · have e : seen h W H x y = (x, y) := if_pos c1
        rw [e]
        simp only
        by_cases d : x < h
        · rw [if_pos (by omega), if_pos d]; rfl
        · rw [if_neg (by omega), if_neg (by omega), if_neg (by omega), if_neg (by omega), if_pos (by omega), if_neg d]; rfl
      · by_cases c2 : W + h ≤ x ∧ y < H + h
        · have e : seen h W H x y = (y, W + 2 * h - 1 - x) := (if_neg c1).trans (if_pos c2)
          rw [e]
          simp only
          by_cases d : y < h
          · rw [if_neg (by omega), if_pos (by omega), if_pos d]
            exact s3 rfl (by omega)
          · rw [if_neg (by omega), if_neg (by omega), if_neg (by omega), if_neg (by omega), if_neg d, if_pos (by omega), if_neg d]; rfl
        · by_cases c3 : h ≤ x ∧ H + h ≤ y
          · have e : seen h W H x y = (W + 2 * h - 1 - x, H + 2 * h - 1 - y) := (if_neg c1).trans ((if_neg c2).trans (if_pos c3))
            rw [e]
            simp only
            by_cases d : W + 2 * h - 1 - x < h
            · rw [if_neg (by omega), if_neg (by omega), if_pos (by omega), if_pos d]
              exact s3 (by omega) (by omega)
            · rw [if_neg (by omega), if_neg (by omega), if_neg (by omega), if_neg (by omega), if_neg (by omega), if_neg (by omega), if_pos (by omega), if_neg d]
              exact s3 (congrArg (· % L) (by omega)) rfl
          · have e : seen h W H x y = (H + 2 * h - 1 - y, x) := (if_neg c1).trans ((if_neg c2).trans (if_neg c3))
            rw [e]
            simp only
            by_cases d : H + 2 * h - 1 - y < h
            · rw [if_neg (by omega), if_neg (by omega), if_neg (by omega), if_pos (by omega), if_pos d]
              exact s3 (by omega) rfl
            · rw [if_neg (by omega), if_neg (by omega), if_neg (by omega), if_neg (by omega), if_neg (by omega), if_neg (by omega), if_neg (by omega), if_neg d]
              exact s3 (congrArg (· % L) (by omega)) rfl
/-- where a knot of the border lies in its chart -/
structure In3 (k : Kind) (L h W H : Nat) (p : Nat × Nat × Nat) : Prop where
  a : p.1 ≤ 2
  f : p.1 = 0 → p.2.1 < W ∧ p.2.2 < H
  s : p.1 = 1 → p.2.1 < L ∧ p.2.2 < h
  c : p.1 = 2 → k = .set ∧ p.2.1 < h ∧ p.2.2 < h
theorem seen_lt {h W H x y : Nat} (hx : x < W + 2 * h) (hy : y < H + 2 * h) (c : ¬ (h ≤ x ∧ x < W + h ∧ h ≤ y ∧ y < H + h)) : (seen h W H x y).2 < h := by
  unfold seen
  by_cases c1 : x < W + h ∧ y < h
  · rw [if_pos c1]; exact c1.2
  · rw [if_neg c1]
    by_cases c2 : W + h ≤ x ∧ y < H + h
    · rw [if_pos c2]; show W + 2 * h - 1 - x < h; omega
    · rw [if_neg c2]
      by_cases c3 : h ≤ x ∧ H + h ≤ y
      · rw [if_pos c3]; show H + 2 * h - 1 - y < h; omega
      · rw [if_neg c3]; show x < h; omega
theorem knot_in (k : Kind) {L h W H x y : Nat} (hx : x < W + 2 * h) (hy : y < H + 2 * h) (hL : 1 ≤ L) : In3 k L h W H (knot k L h W H x y) := by
  unfold knot
  by_cases c : h ≤ x ∧ x < W + h ∧ h ≤ y ∧ y < H + h
  · rw [if_pos c]
    exact ⟨by show 0 ≤ 2; omega, fun _ => ⟨by show x - h < W; omega, by show y - h < H; omega⟩, fun e => absurd (show (0 : Nat) = 1 from e) (by omega), fun e => absurd (show (0 : Nat) = 2 from e) (by omega)⟩
  · rw [if_neg c]
    have z := seen_lt hx hy c
    cases k with
    | met =>
      exact ⟨by show 1 ≤ 2; omega, fun e => absurd (show (1 : Nat) = 0 from e) (by omega), fun _ => ⟨Nat.mod_lt _ hL, by show min (min x (W + 2 * h - 1 - x)) (min y (H + 2 * h - 1 - y)) < h; omega⟩, fun e => absurd (show (1 : Nat) = 2 from e) (by omega)⟩
    | run =>
      exact ⟨by show 1 ≤ 2; omega, fun e => absurd (show (1 : Nat) = 0 from e) (by omega), fun _ => ⟨Nat.mod_lt _ hL, z⟩, fun e => absurd (show (1 : Nat) = 2 from e) (by omega)⟩
    | set =>
      simp only
      by_cases d : (seen h W H x y).1 < h
      · rw [if_pos d]
        exact ⟨by show 2 ≤ 2; omega, fun e => absurd (show (2 : Nat) = 0 from e) (by omega), fun e => absurd (show (2 : Nat) = 1 from e) (by omega), fun _ => ⟨rfl, d, z⟩⟩
      · rw [if_neg d]
        exact ⟨by show 1 ≤ 2; omega, fun e => absurd (show (1 : Nat) = 0 from e) (by omega), fun _ => ⟨Nat.mod_lt _ hL, z⟩, fun e => absurd (show (1 : Nat) = 2 from e) (by omega)⟩
/-! ### the rug -/
/-- an item of a chart's rows -/
def item (rows : List (List Int)) (x y : Nat) : Int := (rows.getD y []).getD x 0
theorem item_enc {c : Chart} (h : c.right = true) {x y : Nat} (hx : x < c.wide) (hy : y < c.high) : item (enc c) x y = bi (c.at_ x y) := by
  obtain ⟨h1, h2, h3, h4⟩ := right_iff.mp h
  have hy' : y < c.rows.length := by omega
  have hl : (c.rows[y]).length = c.wide := (h4 _ (List.getElem_mem hy')).1
  simp only [item, enc, encRows, Chart.at_, List.getD_eq_getElem?_getD, List.getElem?_map, List.getElem?_eq_getElem hy', Option.map_some, Option.getD_some]
  have hx' : x < (c.rows[y]).length := by omega
  simp only [List.getElem?_eq_getElem hx', Option.map_some, Option.getD_some]
/-- the knot's colour among the three sources -/
def srcOf (f s c : List (List Int)) (a : Nat) : List (List Int) := if a = 0 then f else if a = 1 then s else c
def pick (f s c : List (List Int)) (p : Nat × Nat × Nat) : Int := item (srcOf f s c p.1) p.2.1 p.2.2
def rugRow (k : Kind) (L h W H : Nat) (f s c : List (List Int)) (y : Nat) : List Int := (List.range (W + 2 * h)).map fun x => pick f s c (knot k L h W H x y)
def rug (k : Kind) (L h W H : Nat) (f s c : List (List Int)) : List (List Int) := (List.range (H + 2 * h)).map fun y => rugRow k L h W H f s c y
/-- the specification's rug is this one; cr: the corner's rows (no rows but for kind 0) -/
theorem rug_is {k : Kind} {t s c : Chart} {cr : List (List Int)} (ht : t.right = true) (hs : s.right = true) (hc : k = .set → c.right = true ∧ c.wide = s.high ∧ c.high = s.high ∧ cr = enc c) :
    enc (bordered k t s c) = rug k s.wide s.high t.wide t.high (enc t) (enc s) cr := by
  obtain ⟨t1, _⟩ := right_iff.mp ht
  obtain ⟨s1, _⟩ := right_iff.mp hs
  unfold enc encRows bordered Chart.by_ rug
  rw [List.map_map]
  refine List.map_congr_left fun y hy => ?_
  rw [List.mem_range] at hy
  show ((List.range (t.wide + 2 * s.high)).map _).map bi = rugRow _ _ _ _ _ _ _ _ y
  unfold rugRow
  rw [List.map_map]
  refine List.map_congr_left fun x hx => ?_
  rw [List.mem_range] at hx
  have e := knot_is k s.wide s.high t.wide t.high x y hx hy (by omega) (by omega) (by omega)
  have I := knot_in k (L := s.wide) hx hy (by omega)
  rw [← e] at I ⊢
  show bi (match fromOf k s.wide s.high t.wide t.high x y with
    | .field i j => t.at_ i j
    | .strip i j => s.at_ i j
    | .corner i j => c.at_ i j) = _
  cases q : fromOf k s.wide s.high t.wide t.high x y with
  | field i j =>
    rw [q] at I
    exact (item_enc ht (I.f rfl).1 (I.f rfl).2).symm
  | strip i j =>
    rw [q] at I
    exact (item_enc hs (I.s rfl).1 (I.s rfl).2).symm
  | corner i j =>
    rw [q] at I
    obtain ⟨hk, hi, hj⟩ := I.c rfl
    obtain ⟨c1, c2, c3, c4⟩ := hc hk
    subst c4
    exact (item_enc c1 (by show i < c.wide; rw [c2]; exact hi) (by show j < c.high; rw [c3]; exact hj)).symm
end RM
namespace RM
open Wqbbch
/-! ### the call round -/
def sideI (n : Nat) : Bool := decide (1 ≤ n) && decide (n ≤ 512)
def inB (kind : Int) (L h W H : Nat) : Bool := decide (kind ≤ 2) && (decide (1 ≤ h) && decide (h ≤ 128)) && (sideI L && (sideI W && sideI H))
def comesOut (kind : Int) (L h W H : Nat) : Bool := if kind = 0 then decide (W % L = 0) && decide (H % L = 0) else if kind = 1 then decide ((W + 2 * h) % (2 * L) = 0) && decide ((H + 2 * h) % (2 * L) = 0) else decide ((W + h) % L = 0) && decide ((H + h) % L = 0)
def rightCorner (kind : Int) (corner : List (List Int)) (h : Nat) : Bool := if kind ≠ 0 then corner.isEmpty else decide (corner.length = h) && decide (wideOf corner = h)
def refusal (kind : Int) (f s c : List (List Int)) : Int :=
  if ¬ (inB kind (wideOf s) s.length (wideOf f) f.length = true ∧ rightCorner kind c s.length = true) then -1 else if ¬ comesOut kind (wideOf s) s.length (wideOf f) f.length = true then -3
  else if ¬ sizeOkI (wideOf f + 2 * s.length) (f.length + 2 * s.length) = true then -8 else 0
def kk (kind : Int) : Kind := if kind = 0 then .set else if kind = 1 then .met else .run
def cparse (c : List Int) : Option (List (List Int)) := if c = [] then some [] else parse c
def roundM (kind : Int) (t s c : List Int) : List Int :=
  if 66048 < t.length ∨ 66048 < s.length ∨ 66048 < c.length then [-2] else match parse t, parse s, cparse c with
    | some f, some s, some c => if refusal kind f s c < 0 then [refusal kind f s c] else
      ((flat (rug (kk kind) (wideOf s) s.length (wideOf f) f.length f s c)).length : Int) :: flat (rug (kk kind) (wideOf s) s.length (wideOf f) f.length f s c)
    | _, _, _ => [-6]
theorem text_len (ns : List Int) : (RugDNeutral.text ns).length = ns.length := by simp [RugDNeutral.text, RugDNeutral.nats]
theorem shown_says (z : Int) : RugDNeutral.shown (says z) = [z] := rfl
theorem shown_whole (c : Chart) : RugDNeutral.shown (whole c) = ((flat (enc c)).length : Int) :: flat (enc c) := by
  have e := flat_bytes c.rows
  show ((c.text.length : Nat) : Int) :: ([] ++ c.text.map _) = _
  rw [List.nil_append]
  have e' : c.text.map (fun c => ((c.toNat : Nat) : Int)) = flat (enc c) := e
  rw [e', ← e', List.length_map]
theorem comes_fits {kind : Int} {L h W H : Nat} : fits (kk kind) L h W H = comesOut kind L h W H := by
  unfold kk comesOut
  by_cases c0 : kind = 0
  · rw [if_pos c0, if_pos c0]; rfl
  · rw [if_neg c0, if_neg c0]
    by_cases c1 : kind = 1
    · rw [if_pos c1, if_pos c1]; rfl
    · rw [if_neg c1, if_neg c1]; rfl
theorem size_ok {w h : Nat} : sizeOkI w h = true ↔ ¬ (sizeOk w h = false ∨ KNOTS < w * h) := by
  simp only [sizeOkI, sizeOk, Bool.and_eq_true, decide_eq_true_eq, ← Bool.not_eq_true]
  have a : SIDE = 512 := rfl
  have b : KNOTS = 65536 := rfl
  rw [a, b]
  omega
/-- the end of round, when the bounds are kept -/
theorem round_told {kind : Int} {t s c : Chart} {cr : List (List Int)} (ht : t.right = true) (hs : s.right = true) (hb : inB kind s.wide s.high t.wide t.high = true) (hr : rightCorner kind cr s.high = true)
    (hc : kk kind = .set → c.right = true ∧ c.wide = s.high ∧ c.high = s.high ∧ cr = enc c) :
    RugDNeutral.shown (roundTold (kk kind) t s c) = if refusal kind (enc t) (enc s) cr < 0 then [refusal kind (enc t) (enc s) cr] else
      ((flat (rug (kk kind) s.wide s.high t.wide t.high (enc t) (enc s) cr)).length : Int) :: flat (rug (kk kind) s.wide s.high t.wide t.high (enc t) (enc s) cr) := by
  unfold refusal roundTold
  rw [enc_wide ht, enc_high ht, enc_wide hs, enc_high hs, if_neg (not_not_intro ⟨hb, hr⟩), comes_fits]
  cases e : comesOut kind s.wide s.high t.wide t.high with
  | false => rfl
  | true =>
    show RugDNeutral.shown (if sizeOk (t.wide + 2 * s.high) (t.high + 2 * s.high) = false ∨ KNOTS < (t.wide + 2 * s.high) * (t.high + 2 * s.high) then LARGE else whole (bordered (kk kind) t s c)) = if (if ¬ sizeOkI (t.wide + 2 * s.high) (t.high + 2 * s.high) = true then -8 else 0) < 0 then [if ¬ sizeOkI (t.wide + 2 * s.high) (t.high + 2 * s.high) = true then -8 else 0] else _
    by_cases z : sizeOkI (t.wide + 2 * s.high) (t.high + 2 * s.high) = true
    · rw [if_neg (size_ok.mp z), if_neg (not_not_intro z), shown_whole, rug_is ht hs hc]
      rfl
    · rw [if_pos (Decidable.not_not.mp (fun q => z (size_ok.mpr q))), if_pos z]
      rfl
theorem refusal_bad {kind : Int} {f s c : List (List Int)} (h : ¬ (inB kind (wideOf s) s.length (wideOf f) f.length = true ∧ rightCorner kind c s.length = true)) : refusal kind f s c = -1 := if_pos h
theorem one_is {n : Nat} (h : 1 ≤ n ∧ n ≤ 512) : sideI n = true := by
  unfold sideI
  rw [decide_eq_true h.1, decide_eq_true h.2] <;> rfl
theorem round_is {kind : Int} {t s c : List Int} (hk : 0 ≤ kind) (bt : bytesOk t) (bs : bytesOk s) (bc : bytesOk c) : PyWqbbch.round_of kind t s c = roundM kind t s c := by
  show RugDNeutral.shown (answer (.round (RugDNeutral.text t) (RugDNeutral.text s) (RugDNeutral.text c) kind.toNat)) = _
  unfold roundM answer
  simp only [text_len]
  have eT : TEXT = 66048 := rfl
  rw [eT]
  by_cases c0 : 66048 < t.length ∨ 66048 < s.length ∨ 66048 < c.length
  · rw [if_pos c0, if_pos c0]; rfl
  · rw [if_neg c0, if_neg c0]
    unfold ofChart
    simp only [text_len, eT]
    rw [if_neg (show ¬ 66048 < t.length by omega)]
    cases e1 : parse t with
    | none => rw [parse_none bt e1]; rfl
    | some f =>
    obtain ⟨T, hT, rT, rfl⟩ := parse_some e1
    rw [hT]
    simp only
    rw [if_neg (show ¬ 66048 < s.length by omega)]
    cases e2 : parse s with
    | none => rw [parse_none bs e2]; rfl
    | some g =>
    obtain ⟨S, hS, rS, rfl⟩ := parse_some e2
    rw [hS]
    simp only
    obtain ⟨T1, _⟩ := right_iff.mp rT
    obtain ⟨S1, _⟩ := right_iff.mp rS
    have wT := enc_wide rT
    have hTt := enc_high rT
    have wS := enc_wide rS
    have hSs := enc_high rS
    have bnd : kind ≤ 2 → S.high ≤ 128 → inB kind S.wide S.high T.wide T.high = true := by
      intro a b
      unfold inB
      rw [decide_eq_true a, decide_eq_true S1.2.2.1, decide_eq_true b, one_is ⟨S1.1, S1.2.1⟩, one_is ⟨T1.1, T1.2.1⟩, one_is T1.2.2] <;> rfl
    have nbnd : ¬ (kind ≤ 2 ∧ S.high ≤ 128) → ¬ inB kind S.wide S.high T.wide T.high = true := by
      intro a b
      unfold inB at b
      simp only [Bool.and_eq_true, decide_eq_true_eq] at b
      exact a ⟨b.1.1, b.1.2.2⟩
    have bad : ∀ {cr : List (List Int)} {z : List Int}, ¬ (inB kind S.wide S.high T.wide T.high = true ∧ rightCorner kind cr S.high = true) → [(-1 : Int)] = if refusal kind (enc T) (enc S) cr < 0 then [refusal kind (enc T) (enc S) cr] else z := by
      intro cr z hz
      have q : refusal kind (enc T) (enc S) cr = -1 := refusal_bad (by rw [wT, hTt, wS, hSs]; exact hz)
      rw [q]; rfl
    have eD : DEEP = 128 := rfl
    by_cases c1 : c = []
    · subst c1
      have tn : RugDNeutral.text [] = [] := rfl
      rw [tn, if_pos rfl]
      show _ = if refusal kind (enc T) (enc S) [] < 0 then _ else _
      unfold kindAt
      by_cases k0 : kind = 0
      · subst k0
        exact bad (by
          intro hh
          have := hh.2
          unfold rightCorner at this
          rw [if_neg (by decide)] at this
          simp only [Bool.and_eq_true, decide_eq_true_eq] at this
          have z : (0 : Nat) = S.high := this.1
          omega)
      · by_cases k1 : kind = 1
        · subst k1
          show RugDNeutral.shown (if DEEP < S.high then BAD else roundTold .met T S S) = _
          by_cases d : DEEP < S.high
          · rw [if_pos d]
            exact bad fun hh => nbnd (by omega) hh.1
          · rw [if_neg d]
            have z := round_told (kind := 1) (c := S) (cr := []) rT rS (bnd (by omega) (by omega)) rfl (fun h => by cases h)
            rw [wS, wT, hTt, hSs]
            exact z
        · by_cases k2 : kind = 2
          · subst k2
            show RugDNeutral.shown (if DEEP < S.high then BAD else roundTold .run T S S) = _
            by_cases d : DEEP < S.high
            · rw [if_pos d]
              exact bad fun hh => nbnd (by omega) hh.1
            · rw [if_neg d]
              have z := round_told (kind := 2) (c := S) (cr := []) rT rS (bnd (by omega) (by omega)) rfl (fun h => by cases h)
              rw [wS, wT, hTt, hSs]
              exact z
          · have e : kind.toNat = kind.toNat - 3 + 3 := by omega
            rw [e]
            exact bad fun hh => nbnd (by omega) hh.1
    · have tn : RugDNeutral.text c ≠ [] := by
        intro q
        have q2 := text_len c
        rw [q] at q2
        cases c with
        | nil => exact c1 rfl
        | cons a r => cases q2
      rw [if_neg tn, if_neg (show ¬ 66048 < c.length by omega)]
      have ec : cparse c = parse c := if_neg c1
      rw [ec]
      cases e3 : parse c with
      | none => rw [parse_none bc e3]; rfl
      | some g =>
      obtain ⟨C, hC, rC, rfl⟩ := parse_some e3
      rw [hC]
      simp only
      obtain ⟨C1, _⟩ := right_iff.mp rC
      have wC := enc_wide rC
      have hCc := enc_high rC
      have ne : (enc C).isEmpty = false := by
        cases e : enc C with
        | nil => rw [e] at hCc; have z : 0 = C.high := hCc; omega
        | cons => rfl
      unfold kindAt
      by_cases k0 : kind = 0
      · subst k0
        show RugDNeutral.shown (if DEEP < S.high ∨ C.wide ≠ S.high ∨ C.high ≠ S.high then BAD else roundTold .set T S C) = _
        by_cases d : DEEP < S.high ∨ C.wide ≠ S.high ∨ C.high ≠ S.high
        · rw [if_pos d]
          exact bad fun hh => by
            have r := hh.2
            unfold rightCorner at r
            rw [if_neg (by decide), wC, hCc] at r
            simp only [Bool.and_eq_true, decide_eq_true_eq] at r
            rcases d with d | d | d
            · exact nbnd (by omega) hh.1
            · exact d r.2
            · exact d r.1
        · rw [if_neg d]
          have d' : S.high ≤ 128 ∧ C.wide = S.high ∧ C.high = S.high := by omega
          have z := round_told (kind := 0) (c := C) (cr := enc C) rT rS (bnd (by omega) d'.1) (by
            unfold rightCorner
            rw [if_neg (by decide), wC, hCc, decide_eq_true d'.2.1, decide_eq_true d'.2.2] <;> rfl) (fun _ => ⟨rC, d'.2.1, d'.2.2, rfl⟩)
          rw [wS, wT, hTt, hSs]
          exact z
      · have nr : rightCorner kind (enc C) S.high = false := by
          unfold rightCorner
          rw [if_pos k0, ne]
        have hbad := bad (cr := enc C) (z := ((flat (rug (kk kind) (wideOf (enc S)) (enc S).length (wideOf (enc T)) (enc T).length (enc T) (enc S) (enc C))).length : Int) :: flat (rug (kk kind) (wideOf (enc S)) (enc S).length (wideOf (enc T)) (enc T).length (enc T) (enc S) (enc C))) (fun hh => by rw [nr] at hh; cases hh.2)
        refine Eq.trans ?_ hbad
        by_cases k1 : kind = 1
        · subst k1; rfl
        · by_cases k2 : kind = 2
          · subst k2; rfl
          · have e : kind.toNat = kind.toNat - 3 + 3 := by omega
            rw [e]; rfl
end RM
namespace RM
open Wqbbch
/-! ### colours gathered at their places -/
def firstAt (l : List (Nat × Nat)) (i : Nat) : Option Nat := (l.find? fun x => x.1 == i).map (·.2)
def Alike (l : List (Nat × Nat)) : Prop := ∀ x ∈ l, ∀ y ∈ l, x.1 = y.1 → x.2 = y.2
def gStep (a : Option (Array (Option Nat))) (x : Nat × Nat) : Option (Array (Option Nat)) := match a with
  | none => none
  | some v => match v.getD x.1 none with
    | none => some (v.setIfInBounds x.1 (some x.2))
    | some k => if k = x.2 then some v else none
theorem gathered_eq (n : Nat) (l : List (Nat × Nat)) : gathered n l = l.foldl gStep (some (Array.replicate n none)) := rfl
theorem gStep_none : ∀ l : List (Nat × Nat), l.foldl gStep none = none
  | [] => rfl
  | _ :: r => gStep_none r
theorem firstAt_app (l : List (Nat × Nat)) (x : Nat × Nat) (i : Nat) : firstAt (l ++ [x]) i = (firstAt l i).or (if x.1 = i then some x.2 else none) := by
  unfold firstAt
  rw [List.find?_append]
  cases e : l.find? (fun x => x.1 == i) with
  | some y => rfl
  | none =>
    rw [Option.none_or]
    by_cases c : x.1 = i
    · rw [if_pos c, List.find?_cons_of_pos (by simpa using c)]
      rfl
    · rw [if_neg c, List.find?_cons_of_neg (by simpa using c)]
      rfl
theorem firstAt_mem {l : List (Nat × Nat)} {i c : Nat} (h : firstAt l i = some c) : (i, c) ∈ l := by
  unfold firstAt at h
  cases e : l.find? (fun x => x.1 == i) with
  | none => rw [e] at h; cases h
  | some y =>
    rw [e] at h
    have h1 := List.find?_some e
    have h2 := List.mem_of_find?_eq_some e
    obtain ⟨a, b⟩ := y
    have : a = i := by simpa using h1
    subst this
    cases h
    exact h2
theorem firstAt_none {l : List (Nat × Nat)} {i : Nat} (h : firstAt l i = none) : ∀ x ∈ l, x.1 ≠ i := by
  intro x hx z
  unfold firstAt at h
  rw [Option.map_eq_none_iff, List.find?_eq_none] at h
  exact h x hx (by simpa using z)
theorem getD_set (v : Array (Option Nat)) (i j : Nat) (c : Option Nat) (hi : i < v.size) : (v.setIfInBounds i c).getD j none = if i = j then c else v.getD j none := by
  simp only [Array.getD_eq_getD_getElem?, Array.getElem?_setIfInBounds]
  by_cases e : i = j
  · subst e
    simp [hi]
  · simp [e]
structure GInv (n : Nat) (v : Array (Option Nat)) (l : List (Nat × Nat)) : Prop where
  size : v.size = n
  at_ : ∀ i, i < n → v.getD i none = firstAt l i
  ok : Alike l
theorem gather_go (n : Nat) : ∀ (l2 l1 : List (Nat × Nat)) (v : Array (Option Nat)), GInv n v l1 → (∀ x ∈ l2, x.1 < n) →
    (Alike (l1 ++ l2) → ∃ a, l2.foldl gStep (some v) = some a ∧ GInv n a (l1 ++ l2)) ∧ (¬ Alike (l1 ++ l2) → l2.foldl gStep (some v) = none)
  | [], l1, v, g, _ => by
    rw [List.append_nil]
    exact ⟨fun _ => ⟨v, rfl, g⟩, fun h => absurd g.ok h⟩
  | x :: r, l1, v, g, hx => by
    have hxn : x.1 < n := hx x (List.mem_cons_self ..)
    have hr : ∀ y ∈ r, y.1 < n := fun y hy => hx y (List.mem_cons_of_mem _ hy)
    have as : l1 ++ x :: r = (l1 ++ [x]) ++ r := by simp
    rw [as]
    show (Alike ((l1 ++ [x]) ++ r) → ∃ a, r.foldl gStep (gStep (some v) x) = some a ∧ _) ∧ (_ → r.foldl gStep (gStep (some v) x) = none)
    have e := g.at_ x.1 hxn
    cases c : firstAt l1 x.1 with
    | none =>
      rw [c] at e
      have st : gStep (some v) x = some (v.setIfInBounds x.1 (some x.2)) := by
        unfold gStep
        simp only [e]
      rw [st]
      refine gather_go n r (l1 ++ [x]) _ ⟨?_, ?_, ?_⟩ hr
      · rw [Array.size_setIfInBounds]; exact g.size
      · intro i hi
        rw [getD_set _ _ _ _ (by rw [g.size]; exact hxn), firstAt_app, g.at_ i hi]
        by_cases z : x.1 = i
        · subst z
          rw [if_pos rfl, c, if_pos rfl]
          rfl
        · rw [if_neg z, if_neg z, Option.or_none]
      · intro y hy y2 hy2 hh
        have ne := firstAt_none c
        rcases List.mem_append.mp hy with hy | hy
        · rcases List.mem_append.mp hy2 with hy2 | hy2
          · exact g.ok y hy y2 hy2 hh
          · rw [List.mem_singleton.mp hy2] at hh ⊢
            exact absurd hh (ne y hy)
        · rw [List.mem_singleton.mp hy] at hh ⊢
          rcases List.mem_append.mp hy2 with hy2 | hy2
          · exact absurd hh.symm (ne y2 hy2)
          · rw [List.mem_singleton.mp hy2]
    | some k =>
      rw [c] at e
      have mem := firstAt_mem c
      by_cases z : k = x.2
      · have st : gStep (some v) x = some v := by
          unfold gStep
          simp only [e]
          exact if_pos z
        rw [st]
        subst z
        refine gather_go n r (l1 ++ [x]) v ⟨g.size, ?_, ?_⟩ hr
        · intro i hi
          rw [firstAt_app, g.at_ i hi]
          by_cases w : x.1 = i
          · subst w
            rw [c]; rfl
          · rw [if_neg w, Option.or_none]
        · intro y hy y2 hy2 hh
          have up : ∀ y ∈ l1 ++ [x], y ∈ l1 := by
            intro y hy
            rcases List.mem_append.mp hy with hy | hy
            · exact hy
            · rw [List.mem_singleton.mp hy]; exact mem
          exact g.ok y (up y hy) y2 (up y2 hy2) hh
      · have st : gStep (some v) x = none := by
          unfold gStep
          simp only [e]
          exact if_neg z
        rw [st, gStep_none]
        refine ⟨fun al => ?_, fun _ => rfl⟩
        refine absurd ?_ z
        exact al (x.1, k) (by simp [mem]) x (by simp) rfl
/-- gathered, told by its list alone -/
theorem gathered_some {n : Nat} {l : List (Nat × Nat)} (hb : ∀ x ∈ l, x.1 < n) (h : Alike l) : ∃ a, gathered n l = some a ∧ ∀ i, i < n → a.getD i none = firstAt l i := by
  have g0 : GInv n (Array.replicate n none) [] := ⟨by simp, fun i hi => by simp [firstAt, Array.getD_eq_getD_getElem?, hi], fun x hx => by cases hx⟩
  obtain ⟨a, e, g⟩ := (gather_go n l [] _ g0 hb).1 h
  exact ⟨a, (gathered_eq n l).trans e, g.at_⟩
theorem gathered_none {n : Nat} {l : List (Nat × Nat)} (hb : ∀ x ∈ l, x.1 < n) (h : ¬ Alike l) : gathered n l = none := by
  have g0 : GInv n (Array.replicate n none) [] := ⟨by simp, fun i hi => by simp [firstAt, Array.getD_eq_getD_getElem?, hi], fun x hx => by cases hx⟩
  exact (gathered_eq n l).trans ((gather_go n l [] _ g0 hb).2 h)
/-! ### the border's knots -/
theorem at_of_rows {c : Chart} (h : c.right = true) {x y : Nat} (hy : y < c.rows.length) (hx : x < (c.rows[y]).length) : c.at_ x y = (c.rows[y])[x] := by
  unfold Chart.at_
  rw [List.getD_eq_getElem?_getD, List.getD_eq_getElem?_getD, List.getElem?_eq_getElem hy, Option.getD_some, List.getElem?_eq_getElem hx, Option.getD_some]
theorem border_mem {t : Chart} (ht : t.right = true) {k : Kind} {L h : Nat} {p : From × Nat} : p ∈ borderKnots t k L h ↔ ∃ x y, x < t.wide ∧ y < t.high ∧ p = (fromOf k L h (t.wide - 2 * h) (t.high - 2 * h) x y, t.at_ x y) := by
  obtain ⟨_, _, hl, hr⟩ := right_iff.mp ht
  unfold borderKnots
  rw [List.mem_flatMap]
  constructor
  · rintro ⟨⟨r, y⟩, hm, hp⟩
    obtain ⟨_, hy, e⟩ := List.mem_zipIdx hm
    obtain ⟨⟨c, x⟩, hm2, rfl⟩ := List.mem_map.mp hp
    obtain ⟨_, hx, e2⟩ := List.mem_zipIdx hm2
    simp only at hx hy e e2 ⊢
    have hy' : y < t.rows.length := by omega
    have er : r = t.rows[y] := by simpa using e
    subst er
    have hx' : x < (t.rows[y]).length := by omega
    have ec : c = (t.rows[y])[x] := by simpa using e2
    have hw := (hr _ (List.getElem_mem hy')).1
    refine ⟨x, y, by omega, by omega, ?_⟩
    rw [at_of_rows ht hy' hx', ec]
  · rintro ⟨x, y, hx, hy, rfl⟩
    have hy' : y < t.rows.length := by omega
    have hw := (hr _ (List.getElem_mem hy')).1
    have hx' : x < (t.rows[y]).length := by omega
    refine ⟨(t.rows[y], y), List.mk_mem_zipIdx_iff_getElem?.mpr (List.getElem?_eq_getElem hy'), ?_⟩
    refine List.mem_map.mpr ⟨((t.rows[y])[x], x), List.mk_mem_zipIdx_iff_getElem?.mpr (List.getElem?_eq_getElem hx'), ?_⟩
    simp only
    rw [at_of_rows ht hy' hx']
theorem strip_mem {L : Nat} {l : List (From × Nat)} {p : Nat × Nat} : p ∈ stripKnots L l ↔ ∃ i j c, (From.strip i j, c) ∈ l ∧ p = (j * L + i, c) := by
  unfold stripKnots
  rw [List.mem_filterMap]
  constructor
  · rintro ⟨⟨f, c⟩, hm, e⟩
    cases f with
    | field i j => cases e
    | corner i j => cases e
    | strip i j =>
      cases e
      exact ⟨i, j, c, hm, rfl⟩
  · rintro ⟨i, j, c, hm, rfl⟩
    exact ⟨_, hm, rfl⟩
theorem corner_mem {h : Nat} {l : List (From × Nat)} {p : Nat × Nat} : p ∈ cornerKnots h l ↔ ∃ i j c, (From.corner i j, c) ∈ l ∧ p = (j * h + i, c) := by
  unfold cornerKnots
  rw [List.mem_filterMap]
  constructor
  · rintro ⟨⟨f, c⟩, hm, e⟩
    cases f with
    | field i j => cases e
    | strip i j => cases e
    | corner i j =>
      cases e
      exact ⟨i, j, c, hm, rfl⟩
  · rintro ⟨i, j, c, hm, rfl⟩
    exact ⟨_, hm, rfl⟩
end RM
namespace RM
open Wqbbch
/-! ### a strip found: what it is, by the rug's knots alone -/
/-- knots of the border that are the same knot of strip or corner have one colour -/
def OneCol (R : List (List Int)) (k : Kind) (L h W H : Nat) : Prop := ∀ x y x' y', x < W + 2 * h → y < H + 2 * h → x' < W + 2 * h → y' < H + 2 * h → (knot k L h W H x y).1 ≠ 0 → knot k L h W H x y = knot k L h W H x' y' → item R x y = item R x' y'
theorem bi_inj0 : ∀ a, a < 62 → ∀ b, b < 62 → bi a = bi b → a = b := by decide +kernel
theorem at_lt {t : Chart} (h : t.right = true) {x y : Nat} (hx : x < t.wide) (hy : y < t.high) : t.at_ x y < 62 := by
  obtain ⟨_, _, hl, hr⟩ := right_iff.mp h
  have hy' : y < t.rows.length := by omega
  have hw := hr _ (List.getElem_mem hy')
  rw [at_of_rows h hy' (by omega)]
  exact hw.2 _ (List.getElem_mem _)
theorem item_eq {t : Chart} (h : t.right = true) {x y x' y' : Nat} (hx : x < t.wide) (hy : y < t.high) (hx' : x' < t.wide) (hy' : y' < t.high) : item (enc t) x y = item (enc t) x' y' ↔ t.at_ x y = t.at_ x' y' := by
  rw [item_enc h hx hy, item_enc h hx' hy']
  exact ⟨fun e => bi_inj0 _ (at_lt h hx hy) _ (at_lt h hx' hy') e, fun e => by rw [e]⟩
/-- a rug with a depth that leaves a field -/
structure RugOk (t : Chart) (h : Nat) : Prop where
  r : t.right = true
  h1 : 1 ≤ h
  w : 2 * h < t.wide
  v : 2 * h < t.high
theorem told_knot {t : Chart} {h : Nat} (o : RugOk t h) (k : Kind) (L : Nat) {x y : Nat} (hx : x < t.wide) (hy : y < t.high) : told3 (fromOf k L h (t.wide - 2 * h) (t.high - 2 * h) x y) = knot k L h (t.wide - 2 * h) (t.high - 2 * h) x y :=
  knot_is k L h _ _ x y (by have := o.w; omega) (by have := o.v; omega) (by have := o.w; omega) (by have := o.v; omega) o.h1
theorem told_inj : ∀ {a b : From}, told3 a = told3 b → a = b := by
  intro a b h
  cases a <;> cases b <;> simp [told3] at h <;> simp [h]
/-- strip's and corner's knots of the border by their places -/
theorem strip_at {t : Chart} {h : Nat} (o : RugOk t h) {k : Kind} {L : Nat} (hL : 1 ≤ L) {p : Nat × Nat} : p ∈ stripKnots L (borderKnots t k L h) ↔ ∃ x y i j, x < t.wide ∧ y < t.high ∧ knot k L h (t.wide - 2 * h) (t.high - 2 * h) x y = (1, i, j) ∧ p = (j * L + i, t.at_ x y) := by
  rw [strip_mem]
  constructor
  · rintro ⟨i, j, c, hm, rfl⟩
    obtain ⟨x, y, hx, hy, e⟩ := (border_mem o.r).mp hm
    obtain ⟨e1, rfl⟩ := Prod.mk.inj e
    refine ⟨x, y, i, j, hx, hy, ?_, rfl⟩
    rw [← told_knot o k L hx hy]
    exact (congrArg told3 e1).symm
  · rintro ⟨x, y, i, j, hx, hy, e, rfl⟩
    refine ⟨i, j, _, (border_mem o.r).mpr ⟨x, y, hx, hy, ?_⟩, rfl⟩
    rw [← told_knot o k L hx hy] at e
    have e2 : fromOf k L h (t.wide - 2 * h) (t.high - 2 * h) x y = .strip i j := told_inj e
    rw [e2]
theorem corner_at {t : Chart} {h : Nat} (o : RugOk t h) {k : Kind} {L : Nat} {p : Nat × Nat} : p ∈ cornerKnots h (borderKnots t k L h) ↔ ∃ x y i j, x < t.wide ∧ y < t.high ∧ knot k L h (t.wide - 2 * h) (t.high - 2 * h) x y = (2, i, j) ∧ p = (j * h + i, t.at_ x y) := by
  rw [corner_mem]
  constructor
  · rintro ⟨i, j, c, hm, rfl⟩
    obtain ⟨x, y, hx, hy, e⟩ := (border_mem o.r).mp hm
    obtain ⟨e1, rfl⟩ := Prod.mk.inj e
    refine ⟨x, y, i, j, hx, hy, ?_, rfl⟩
    rw [← told_knot o k L hx hy]
    exact (congrArg told3 e1).symm
  · rintro ⟨x, y, i, j, hx, hy, e, rfl⟩
    refine ⟨i, j, _, (border_mem o.r).mpr ⟨x, y, hx, hy, ?_⟩, rfl⟩
    rw [← told_knot o k L hx hy] at e
    have e2 : fromOf k L h (t.wide - 2 * h) (t.high - 2 * h) x y = .corner i j := told_inj e
    rw [e2]
theorem place_inj {L i j i' j' : Nat} (hi : i < L) (hi' : i' < L) (e : j * L + i = j' * L + i') : i = i' ∧ j = j' := by
  have d : ∀ a b, b < L → (a * L + b) / L = a ∧ (a * L + b) % L = b := by
    intro a b hb
    have hL : 0 < L := by omega
    rw [Nat.mul_comm, Nat.mul_add_div hL, Nat.mul_add_mod, Nat.div_eq_of_lt hb, Nat.mod_eq_of_lt hb]
    exact ⟨rfl, rfl⟩
  have a := d j i hi
  have b := d j' i' hi'
  rw [e] at a
  exact ⟨a.2.symm.trans b.2, a.1.symm.trans b.1⟩
theorem place_lt {L h i j : Nat} (hi : i < L) (hj : j < h) : j * L + i < L * h := by
  have : (j + 1) * L ≤ h * L := Nat.mul_le_mul_right _ hj
  rw [Nat.mul_comm L h]
  rw [Nat.succ_mul] at this
  omega
theorem alike_strip {t : Chart} {h : Nat} (o : RugOk t h) {k : Kind} {L : Nat} (hL : 1 ≤ L) : (Alike (stripKnots L (borderKnots t k L h)) ∧ Alike (cornerKnots h (borderKnots t k L h))) ↔ OneCol (enc t) k L h (t.wide - 2 * h) (t.high - 2 * h) := by
  have ow := o.w
  have ov := o.v
  constructor
  · rintro ⟨a, b⟩ x y x' y' hx hy hx' hy' n0 e
    have hx : x < t.wide := by omega
    have hy : y < t.high := by omega
    have hx' : x' < t.wide := by omega
    have hy' : y' < t.high := by omega
    rw [item_eq o.r hx hy hx' hy']
    have I := knot_in k (L := L) (h := h) (W := t.wide - 2 * h) (H := t.high - 2 * h) (x := x) (y := y) (by omega) (by omega) hL
    cases q : knot k L h (t.wide - 2 * h) (t.high - 2 * h) x y with
    | mk q1 r =>
    obtain ⟨i, j⟩ := r
    rw [q] at I n0 e
    have h3 : q1 = 1 ∨ q1 = 2 := by
      have z : q1 ≤ 2 := I.a
      have z2 : q1 ≠ 0 := n0
      omega
    rcases h3 with rfl | rfl
    · exact a _ ((strip_at o hL).mpr ⟨x, y, i, j, hx, hy, q, rfl⟩) _ ((strip_at o hL).mpr ⟨x', y', i, j, hx', hy', e.symm, rfl⟩) rfl
    · exact b _ ((corner_at o).mpr ⟨x, y, i, j, hx, hy, q, rfl⟩) _ ((corner_at o).mpr ⟨x', y', i, j, hx', hy', e.symm, rfl⟩) rfl
  · intro a
    refine ⟨?_, ?_⟩
    · intro p hp p' hp' e
      obtain ⟨x, y, i, j, hx, hy, q, rfl⟩ := (strip_at o hL).mp hp
      obtain ⟨x', y', i', j', hx', hy', q', rfl⟩ := (strip_at o hL).mp hp'
      have I := knot_in k (L := L) (h := h) (W := t.wide - 2 * h) (H := t.high - 2 * h) (x := x) (y := y) (by omega) (by omega) hL
      have I' := knot_in k (L := L) (h := h) (W := t.wide - 2 * h) (H := t.high - 2 * h) (x := x') (y := y') (by omega) (by omega) hL
      rw [q] at I
      rw [q'] at I'
      obtain ⟨z1, z2⟩ := place_inj (I.s rfl).1 (I'.s rfl).1 e
      refine (item_eq o.r hx hy hx' hy').mp (a x y x' y' (by omega) (by omega) (by omega) (by omega) (by rw [q]; exact Nat.succ_ne_zero _) ?_)
      rw [q, q']
      simp only at z1 z2
      rw [z1, z2]
    · intro p hp p' hp' e
      obtain ⟨x, y, i, j, hx, hy, q, rfl⟩ := (corner_at o).mp hp
      obtain ⟨x', y', i', j', hx', hy', q', rfl⟩ := (corner_at o).mp hp'
      have I := knot_in k (L := L) (h := h) (W := t.wide - 2 * h) (H := t.high - 2 * h) (x := x) (y := y) (by omega) (by omega) hL
      have I' := knot_in k (L := L) (h := h) (W := t.wide - 2 * h) (H := t.high - 2 * h) (x := x') (y := y') (by omega) (by omega) hL
      rw [q] at I
      rw [q'] at I'
      obtain ⟨z1, z2⟩ := place_inj (I.c rfl).2.1 (I'.c rfl).2.1 e
      refine (item_eq o.r hx hy hx' hy').mp (a x y x' y' (by omega) (by omega) (by omega) (by omega) (by rw [q]; exact Nat.succ_ne_zero _) ?_)
      rw [q, q']
      simp only at z1 z2
      rw [z1, z2]
theorem strip_bound {t : Chart} {h : Nat} (o : RugOk t h) {k : Kind} {L : Nat} (hL : 1 ≤ L) : ∀ p ∈ stripKnots L (borderKnots t k L h), p.1 < L * h := by
  intro p hp
  have ow := o.w
  have ov := o.v
  obtain ⟨x, y, i, j, hx, hy, q, rfl⟩ := (strip_at o hL).mp hp
  have I := knot_in k (L := L) (h := h) (W := t.wide - 2 * h) (H := t.high - 2 * h) (x := x) (y := y) (by omega) (by omega) hL
  rw [q] at I
  exact place_lt (I.s rfl).1 (I.s rfl).2
theorem corner_bound {t : Chart} {h : Nat} (o : RugOk t h) {k : Kind} {L : Nat} (hL : 1 ≤ L) : ∀ p ∈ cornerKnots h (borderKnots t k L h), p.1 < h * h := by
  intro p hp
  have ow := o.w
  have ov := o.v
  obtain ⟨x, y, i, j, hx, hy, q, rfl⟩ := (corner_at o).mp hp
  have I := knot_in k (L := L) (h := h) (W := t.wide - 2 * h) (H := t.high - 2 * h) (x := x) (y := y) (by omega) (by omega) hL
  rw [q] at I
  exact place_lt (I.c rfl).2.1 (I.c rfl).2.2
/-- rows of a strip, each of its knots in the colour that the border's knots have, or colour a -/
structure IsStrip (R : List (List Int)) (k : Kind) (L h W H : Nat) (S : List (List Int)) : Prop where
  high : S.length = h
  wide : ∀ r ∈ S, r.length = L
  used : ∀ x y i j, x < W + 2 * h → y < H + 2 * h → knot k L h W H x y = (1, i, j) → item S i j = item R x y
  free : ∀ i j, i < L → j < h → (∀ x y, x < W + 2 * h → y < H + 2 * h → knot k L h W H x y ≠ (1, i, j)) → item S i j = 97
theorem item_ext {S T : List (List Int)} {L h : Nat} (h1 : S.length = h) (h2 : ∀ r ∈ S, r.length = L) (h3 : T.length = h) (h4 : ∀ r ∈ T, r.length = L) (e : ∀ i j, i < L → j < h → item S i j = item T i j) : S = T := by
  refine List.ext_getElem (h1.trans h3.symm) fun j hj hj' => ?_
  have a := h2 _ (List.getElem_mem hj)
  have b := h4 _ (List.getElem_mem hj')
  refine List.ext_getElem (a.trans b.symm) fun i hi hi' => ?_
  have z := e i j (by omega) (by omega)
  unfold item at z
  rw [List.getD_eq_getElem?_getD, List.getD_eq_getElem?_getD, List.getD_eq_getElem?_getD, List.getD_eq_getElem?_getD, List.getElem?_eq_getElem hj, List.getElem?_eq_getElem hj', Option.getD_some, Option.getD_some, List.getElem?_eq_getElem hi, List.getElem?_eq_getElem hi', Option.getD_some, Option.getD_some] at z
  exact z
theorem IsStrip.one {R S T : List (List Int)} {k : Kind} {L h W H : Nat} (a : IsStrip R k L h W H S) (b : IsStrip R k L h W H T) : S = T := by
  refine item_ext a.high a.wide b.high b.wide fun i j hi hj => ?_
  by_cases c : ∃ x y, x < W + 2 * h ∧ y < H + 2 * h ∧ knot k L h W H x y = (1, i, j)
  · obtain ⟨x, y, hx, hy, e⟩ := c
    rw [a.used x y i j hx hy e, b.used x y i j hx hy e]
  · have n : ∀ x y, x < W + 2 * h → y < H + 2 * h → knot k L h W H x y ≠ (1, i, j) := fun x y hx hy e => c ⟨x, y, hx, hy, e⟩
    rw [a.free i j hi hj n, b.free i j hi hj n]
theorem item_by {w v : Nat} {f : Nat → Nat → Nat} {i j : Nat} (hi : i < w) (hj : j < v) : item (enc (Chart.by_ w v f)) i j = bi (f i j) := by
  unfold item enc encRows Chart.by_
  simp only [List.getD_eq_getElem?_getD, List.getElem?_map, List.getElem?_range hj, List.getElem?_range hi, Option.map_some, Option.getD_some]
theorem strip_no {t : Chart} {h : Nat} (o : RugOk t h) {k : Kind} {L : Nat} (hL : 1 ≤ L) (n : ¬ (fits k L h (t.wide - 2 * h) (t.high - 2 * h) = true ∧ OneCol (enc t) k L h (t.wide - 2 * h) (t.high - 2 * h))) : stripOf t k L h = none := by
  unfold stripOf
  by_cases c : fits k L h (t.wide - 2 * h) (t.high - 2 * h) = true
  · rw [if_pos c]
    have n2 : ¬ (Alike (stripKnots L (borderKnots t k L h)) ∧ Alike (cornerKnots h (borderKnots t k L h))) := fun z => n ⟨c, (alike_strip o hL).mp z⟩
    simp only
    by_cases a : Alike (stripKnots L (borderKnots t k L h))
    · rw [gathered_none (corner_bound o hL) fun z => n2 ⟨a, z⟩]
      split
      · rename_i z; cases z
      · rfl
    · rw [gathered_none (strip_bound o hL) a]
  · rw [if_neg c]
theorem strip_yes {t : Chart} {h : Nat} (o : RugOk t h) {k : Kind} {L : Nat} (hL : 1 ≤ L) (hf : fits k L h (t.wide - 2 * h) (t.high - 2 * h) = true) (hc : OneCol (enc t) k L h (t.wide - 2 * h) (t.high - 2 * h)) :
    ∃ u, stripOf t k L h = some u ∧ IsStrip (enc t) k L h (t.wide - 2 * h) (t.high - 2 * h) (enc u) := by
  have ow := o.w
  have ov := o.v
  obtain ⟨a1, a2⟩ := (alike_strip o hL).mpr hc
  obtain ⟨v, ev, hv⟩ := gathered_some (strip_bound o hL) a1
  obtain ⟨v2, ev2, _⟩ := gathered_some (corner_bound o hL) a2
  refine ⟨Chart.by_ L h (fun (x y : Nat) => (v.getD (y * L + x) none).getD 0), ?_, ?_⟩
  · unfold stripOf
    rw [if_pos hf]
    simp only [ev, ev2]
  · refine ⟨?_, ?_, ?_, ?_⟩
    · simp [enc, encRows, Chart.by_]
    · intro r hr
      simp only [enc, encRows, Chart.by_, List.map_map, List.mem_map] at hr
      obtain ⟨y, _, rfl⟩ := hr
      simp
    · intro x y i j hx hy e
      have hx : x < t.wide := by omega
      have hy : y < t.high := by omega
      have I := knot_in k (L := L) (h := h) (W := t.wide - 2 * h) (H := t.high - 2 * h) (x := x) (y := y) (by omega) (by omega) hL
      rw [e] at I
      obtain ⟨hi, hj⟩ := I.s rfl
      rw [item_by hi hj, item_enc o.r hx hy, hv _ (place_lt hi hj)]
      have m : (j * L + i, t.at_ x y) ∈ stripKnots L (borderKnots t k L h) := (strip_at o hL).mpr ⟨x, y, i, j, hx, hy, e, rfl⟩
      cases f : firstAt (stripKnots L (borderKnots t k L h)) (j * L + i) with
      | none => exact absurd rfl (firstAt_none f _ m)
      | some c =>
        have := a1 _ (firstAt_mem f) _ m rfl
        simp only at this
        rw [this]
        rfl
    · intro i j hi hj n
      rw [item_by hi hj, hv _ (place_lt hi hj)]
      cases f : firstAt (stripKnots L (borderKnots t k L h)) (j * L + i) with
      | none => rfl
      | some c =>
        exfalso
        obtain ⟨x, y, i', j', hx, hy, q, e⟩ := (strip_at o hL).mp (firstAt_mem f)
        have I := knot_in k (L := L) (h := h) (W := t.wide - 2 * h) (H := t.high - 2 * h) (x := x) (y := y) (by omega) (by omega) hL
        rw [q] at I
        have e1 : j * L + i = j' * L + i' := congrArg Prod.fst e
        obtain ⟨z1, z2⟩ := place_inj hi (I.s rfl).1 e1
        subst z1 z2
        exact n x y (by omega) (by omega) q
/-! ### the corner of kind 0, and the field within -/
theorem corner_iff {t : Chart} {h : Nat} (o : RugOk t h) : (gathered (h * h) (cornerKnots h (borderKnots t .set 1 h))).isSome = true ↔
    ∀ x y i j, x < t.wide → y < t.high → knot .set 1 h (t.wide - 2 * h) (t.high - 2 * h) x y = (2, i, j) → item (enc t) x y = item (enc t) i j := by
  have ow := o.w
  have ov := o.v
  have o1 := o.h1
  have cor : ∀ i j, i < h → j < h → knot .set 1 h (t.wide - 2 * h) (t.high - 2 * h) i j = (2, i, j) := by
    intro i j hi hj
    unfold knot
    rw [if_neg (by omega)]
    have e : seen h (t.wide - 2 * h) (t.high - 2 * h) i j = (i, j) := if_pos (by omega)
    simp only [e]
    rw [if_pos hi]
  constructor
  · intro a x y i j hx hy e
    by_cases al : Alike (cornerKnots h (borderKnots t .set 1 h))
    · have I := knot_in .set (L := 1) (h := h) (W := t.wide - 2 * h) (H := t.high - 2 * h) (x := x) (y := y) (by omega) (by omega) (Nat.le_refl _)
      rw [e] at I
      obtain ⟨_, hi, hj⟩ := I.c rfl
      have hi : i < h := hi
      have hj : j < h := hj
      rw [item_eq o.r hx hy (by omega) (by omega)]
      exact al _ ((corner_at o).mpr ⟨x, y, i, j, hx, hy, e, rfl⟩) _ ((corner_at o).mpr ⟨i, j, i, j, by omega, by omega, cor i j hi hj, rfl⟩) rfl
    · rw [gathered_none (corner_bound o (Nat.le_refl 1)) al] at a
      cases a
  · intro a
    have al : Alike (cornerKnots h (borderKnots t .set 1 h)) := by
      intro p hp p' hp' e
      obtain ⟨x, y, i, j, hx, hy, q, rfl⟩ := (corner_at o).mp hp
      obtain ⟨x', y', i', j', hx', hy', q', rfl⟩ := (corner_at o).mp hp'
      have I := knot_in .set (L := 1) (h := h) (W := t.wide - 2 * h) (H := t.high - 2 * h) (x := x) (y := y) (by omega) (by omega) (Nat.le_refl _)
      have I' := knot_in .set (L := 1) (h := h) (W := t.wide - 2 * h) (H := t.high - 2 * h) (x := x') (y := y') (by omega) (by omega) (Nat.le_refl _)
      rw [q] at I
      rw [q'] at I'
      obtain ⟨z1, z2⟩ := place_inj (I.c rfl).2.1 (I'.c rfl).2.1 e
      simp only at z1 z2
      subst z1 z2
      exact (item_eq o.r hx hy hx' hy').mp ((a x y _ _ hx hy q).trans (a x' y' _ _ hx' hy' q').symm)
    obtain ⟨v, ev, _⟩ := gathered_some (corner_bound o (Nat.le_refl 1)) al
    rw [ev]
    rfl
/-- a cut of rows -/
def cutRows (R : List (List Int)) (x y w h : Nat) : List (List Int) := (List.range h).map fun j => (List.range w).map fun i => item R (x + i) (y + j)
theorem cut_is {t : Chart} (h : t.right = true) {x y w v : Nat} (hx : x + w ≤ t.wide) (hy : y + v ≤ t.high) : enc (t.cutOut x y w v) = cutRows (enc t) x y w v := by
  unfold Chart.cutOut Chart.by_ enc encRows cutRows
  rw [List.map_map]
  refine List.map_congr_left fun j hj => ?_
  rw [List.mem_range] at hj
  show ((List.range w).map _).map bi = _
  rw [List.map_map]
  refine List.map_congr_left fun i hi => ?_
  rw [List.mem_range] at hi
  exact (item_enc h (by omega) (by omega)).symm
theorem cut_slices {R : List (List Int)} {x y w v n : Nat} (hr : ∀ r ∈ R, r.length = n) (hx : x + w ≤ n) (hy : y + v ≤ R.length) : cutRows R x y w v = ((R.drop y).take v).map fun r => (r.drop x).take w := by
  unfold cutRows
  refine List.ext_getElem ?_ fun j hj hj' => ?_
  · simp; omega
  · have hjv : j < v := by simpa using hj
    have hjR : y + j < R.length := by omega
    have hn := hr _ (List.getElem_mem hjR)
    simp only [List.getElem_map, List.getElem_range, List.getElem_take, List.getElem_drop]
    refine List.ext_getElem ?_ fun i hi hi' => ?_
    · simp; omega
    · have hiw : i < w := by simpa using hi
      simp only [List.getElem_map, List.getElem_range, List.getElem_take, List.getElem_drop]
      unfold item
      rw [List.getD_eq_getElem?_getD, List.getD_eq_getElem?_getD, List.getElem?_eq_getElem hjR, Option.getD_some, List.getElem?_eq_getElem (by omega), Option.getD_some]
end RM
namespace RM
open Wqbbch
/-! ### from, off, corner, found, sizes: what is due, said with the program's words -/
/-- h is a depth, and 2 h less than the rug's width and height -/
def rugOk (R : List (List Int)) (h : Int) : Bool := (decide (1 ≤ h) && decide (h ≤ 128)) && (decide (2 * h < (wideOf R : Nat)) && decide (2 * h < (R.length : Nat)))
theorem rug_long {t : List Int} {h : Nat} (f : Chart → Ans) (c : 66048 < t.length) : RugDNeutral.shown (ofRug (RugDNeutral.text t) h f) = [-2] := by
  unfold ofRug ofChart
  have eT : TEXT = 66048 := rfl
  rw [text_len, eT, if_pos c]
  rfl
theorem rug_wrong {t : List Int} {h : Nat} (bt : bytesOk t) (f : Chart → Ans) (c : ¬ 66048 < t.length) (e : parse t = none) : RugDNeutral.shown (ofRug (RugDNeutral.text t) h f) = [-6] := by
  unfold ofRug ofChart
  have eT : TEXT = 66048 := rfl
  rw [text_len, eT, if_neg c, parse_none bt e]
  rfl
theorem rug_right {t : List Int} {h : Int} (f : Chart → Ans) (c : ¬ 66048 < t.length) {R : List (List Int)} (e : parse t = some R) :
    ∃ T : Chart, T.right = true ∧ R = enc T ∧ (rugOk R h = false → RugDNeutral.shown (ofRug (RugDNeutral.text t) h.toNat f) = [-1]) ∧ (rugOk R h = true → RugOk T h.toNat ∧ RugDNeutral.shown (ofRug (RugDNeutral.text t) h.toNat f) = RugDNeutral.shown (f T)) := by
  obtain ⟨T, hT, rT, rfl⟩ := parse_some e
  refine ⟨T, rT, rfl, ?_⟩
  unfold ofRug ofChart
  have eT : TEXT = 66048 := rfl
  rw [text_len, eT, if_neg c, hT]
  simp only
  have w := enc_wide rT
  have v := enc_high rT
  have eD : DEEP = 128 := rfl
  have cc : (rugOk (enc T) h = true) ↔ ¬ (deepOk h.toNat = false ∨ T.wide ≤ 2 * h.toNat ∨ T.high ≤ 2 * h.toNat) := by
    simp only [rugOk, deepOk, ← Bool.not_eq_true, Bool.and_eq_true, decide_eq_true_eq, w, v]
    omega
  constructor
  · intro d
    rw [if_pos (Decidable.not_not.mp fun z => by rw [cc.mpr z] at d; cases d)]
    rfl
  · intro d
    rw [if_neg (cc.mp d)]
    have d' := d
    simp only [rugOk, Bool.and_eq_true, decide_eq_true_eq, w, v] at d'
    exact ⟨⟨rT, by omega, by omega, by omega⟩, rfl⟩
/-- how many, and they -/
def wholeM (rows : List (List Int)) : List Int := ((flat rows).length : Int) :: flat rows
theorem shown_wholeM (c : Chart) : RugDNeutral.shown (whole c) = wholeM (enc c) := shown_whole c
def offM (h : Int) (t : List Int) : List Int := if 66048 < t.length then [-2] else match parse t with
  | none => [-6]
  | some R => if rugOk R h = true then wholeM (cutRows R h.toNat h.toNat (wideOf R - 2 * h.toNat) (R.length - 2 * h.toNat)) else [-1]
theorem off_is {h : Int} {t : List Int} (bt : bytesOk t) : PyWqbbch.off h t = offM h t := by
  show RugDNeutral.shown (ofRug (RugDNeutral.text t) h.toNat fun c => whole (c.within h.toNat)) = _
  unfold offM
  by_cases c : 66048 < t.length
  · rw [if_pos c, rug_long _ c]
  rw [if_neg c]
  cases e : parse t with
  | none => rw [rug_wrong bt _ c e]
  | some R =>
  obtain ⟨T, rT, eR, h1, h2⟩ := rug_right (h := h) (fun c => whole (c.within h.toNat)) c e
  simp only
  cases d : rugOk R h with
  | false =>
    rw [h1 d]
    rfl
  | true =>
    obtain ⟨o, q⟩ := h2 d
    have ow := o.w
    have ov := o.v
    rw [q, shown_wholeM, if_pos rfl, eR, enc_wide rT, enc_high rT]
    unfold Chart.within
    rw [cut_is rT (by omega) (by omega)]
/-- the four corners are alike, as kind 0 has them -/
def CornersOne (R : List (List Int)) (h : Nat) : Prop := ∀ x y i j, x < wideOf R → y < R.length → knot .set 1 h (wideOf R - 2 * h) (R.length - 2 * h) x y = (2, i, j) → item R x y = item R i j
/-- corner: what is due where the rug and the depth are right -/
theorem corner_due {h : Int} {t : List Int} {R : List (List Int)} (c : ¬ 66048 < t.length) (e : parse t = some R) (ok : rugOk R h = true) :
    (CornersOne R h.toNat → PyWqbbch.corner h t = wholeM (cutRows R 0 0 h.toNat h.toNat)) ∧ (¬ CornersOne R h.toNat → PyWqbbch.corner h t = [-5]) := by
  obtain ⟨T, rT, eR, _, h2⟩ := rug_right (h := h) (fun c => match cornerOf c h.toNat with
    | none => NONE
    | some u => whole u) c e
  obtain ⟨o, q⟩ := h2 ok
  have ow := o.w
  have ov := o.v
  have ci := corner_iff o
  subst eR
  have cc : CornersOne (enc T) h.toNat ↔ (gathered (h.toNat * h.toNat) (cornerKnots h.toNat (borderKnots T .set 1 h.toNat))).isSome = true := by
    rw [ci]
    unfold CornersOne
    rw [enc_wide rT, enc_high rT]
  have q' : PyWqbbch.corner h t = RugDNeutral.shown (match cornerOf T h.toNat with
    | none => NONE
    | some u => whole u) := q
  constructor
  · intro z
    rw [q']
    unfold cornerOf
    rw [if_pos (cc.mp z)]
    simp only
    rw [shown_wholeM, cut_is rT (by omega) (by omega)]
  · intro z
    rw [q']
    unfold cornerOf
    rw [if_neg fun y => z (cc.mpr y)]
    rfl
theorem corner_long {h : Int} {t : List Int} (c : 66048 < t.length) : PyWqbbch.corner h t = [-2] := rug_long _ c
theorem corner_wrong {h : Int} {t : List Int} (bt : bytesOk t) (c : ¬ 66048 < t.length) (e : parse t = none) : PyWqbbch.corner h t = [-6] := rug_wrong bt _ c e
theorem corner_bad {h : Int} {t : List Int} {R : List (List Int)} (c : ¬ 66048 < t.length) (e : parse t = some R) (ok : rugOk R h = false) : PyWqbbch.corner h t = [-1] := by
  obtain ⟨T, rT, eR, h1, _⟩ := rug_right (h := h) (fun c => match cornerOf c h.toNat with
    | none => NONE
    | some u => whole u) c e
  exact h1 ok
/-! ### found -/
/-- a strip so long makes the border -/
def Makes (R : List (List Int)) (k : Kind) (h L : Nat) : Prop := fits k L h (wideOf R - 2 * h) (R.length - 2 * h) = true ∧ OneCol R k L h (wideOf R - 2 * h) (R.length - 2 * h)
theorem found_long {h kind : Int} {t : List Int} (c : 66048 < t.length) : PyWqbbch.found h kind t = [-2] := rug_long _ c
theorem found_wrong {h kind : Int} {t : List Int} (bt : bytesOk t) (c : ¬ 66048 < t.length) (e : parse t = none) : PyWqbbch.found h kind t = [-6] := rug_wrong bt _ c e
def foundF (kind h : Nat) : Chart → Ans := fun c => match kindAt kind with
    | none => BAD
    | some k => (match foundIn c k h with
      | none => NONE
      | some u => whole u)
theorem found_eq {h kind : Int} {t : List Int} : PyWqbbch.found h kind t = RugDNeutral.shown (ofRug (RugDNeutral.text t) h.toNat (foundF kind.toNat h.toNat)) := by
  show RugDNeutral.shown (answer (.found (RugDNeutral.text t) h.toNat kind.toNat)) = _
  unfold answer
  dsimp only
  refine congrArg (fun F => RugDNeutral.shown (ofRug (RugDNeutral.text t) h.toNat F)) (funext fun c => ?_)
  unfold foundF
  cases kindAt kind.toNat with
  | none => rfl
  | some k =>
    dsimp only
    cases foundIn c k h.toNat <;> rfl
theorem found_bad {h kind : Int} {t : List Int} {R : List (List Int)} (c : ¬ 66048 < t.length) (e : parse t = some R) (ok : rugOk R h = false) : PyWqbbch.found h kind t = [-1] := by
  obtain ⟨T, rT, eR, h1, _⟩ := rug_right (h := h) (foundF kind.toNat h.toNat) c e
  rw [found_eq]
  exact h1 ok
theorem kind_at {kind : Int} (h0 : 0 ≤ kind) (h2 : kind ≤ 2) : kindAt kind.toNat = some (kk kind) := by
  have e : kind = 0 ∨ kind = 1 ∨ kind = 2 := by omega
  rcases e with rfl | rfl | rfl <;> rfl
theorem kind_none {kind : Int} (h2 : ¬ kind ≤ 2) : kindAt kind.toNat = none := by
  have e : kind.toNat = kind.toNat - 3 + 3 := by omega
  rw [e]
  rfl
theorem found_kind {h kind : Int} {t : List Int} {R : List (List Int)} (c : ¬ 66048 < t.length) (e : parse t = some R) (hk : ¬ kind ≤ 2) : PyWqbbch.found h kind t = [-1] := by
  cases ok : rugOk R h with
  | false => exact found_bad c e ok
  | true =>
    obtain ⟨T, rT, eR, _, h2⟩ := rug_right (h := h) (foundF kind.toNat h.toNat) c e
    obtain ⟨o, q⟩ := h2 ok
    have q' : PyWqbbch.found h kind t = RugDNeutral.shown (foundF kind.toNat h.toNat T) := found_eq.trans q
    rw [q']
    unfold foundF
    rw [kind_none hk]
    rfl
theorem range_first {α : Type} (f : Nat → Option α) (n L : Nat) (hL : L < n) {u : α} (h : f L = some u) (before : ∀ i, i < L → f i = none) : (List.range n).findSome? f = some u := by
  have e : List.range n = List.range L ++ L :: ((List.range (n - L - 1)).map (L + 1 + ·)) := by
    have a : n = L + (n - L) := by omega
    have b : n - L = (n - L - 1) + 1 := by omega
    conv => lhs; rw [a, List.range_add, b, List.range_succ_eq_map]
    simp only [List.map_cons, List.map_map, Nat.add_zero]
    congr 2
    refine List.map_congr_left fun i _ => ?_
    show L + (i + 1) = L + 1 + i
    omega
  rw [e, List.findSome?_append]
  have z : (List.range L).findSome? f = none := by
    rw [List.findSome?_eq_none_iff]
    intro i hi
    exact before i (List.mem_range.mp hi)
  rw [z, Option.none_or, List.findSome?_cons, h]
theorem found_yes {h kind : Int} {t : List Int} {R S : List (List Int)} {L : Nat} (c : ¬ 66048 < t.length) (e : parse t = some R) (ok : rugOk R h = true) (k0 : 0 ≤ kind) (k2 : kind ≤ 2) (l1 : 1 ≤ L) (l2 : L ≤ 512)
    (m : Makes R (kk kind) h.toNat L) (least : ∀ i, 1 ≤ i → i < L → ¬ Makes R (kk kind) h.toNat i) (s : IsStrip R (kk kind) L h.toNat (wideOf R - 2 * h.toNat) (R.length - 2 * h.toNat) S) : PyWqbbch.found h kind t = wholeM S := by
  obtain ⟨T, rT, eR, _, h2⟩ := rug_right (h := h) (foundF kind.toNat h.toNat) c e
  obtain ⟨o, q⟩ := h2 ok
  have q' : PyWqbbch.found h kind t = RugDNeutral.shown (foundF kind.toNat h.toNat T) := found_eq.trans q
  subst eR
  unfold Makes at m least
  rw [enc_wide rT, enc_high rT] at m s least
  obtain ⟨u, eu, su⟩ := strip_yes o l1 m.1 m.2
  have fi : foundIn T (kk kind) h.toNat = some u := by
    unfold foundIn
    refine range_first _ (SIDE + 1) L (by have : SIDE = 512 := rfl; omega) ?_ fun i hi => ?_
    · rw [if_neg (by omega), eu]
    · by_cases i0 : i = 0
      · rw [if_pos i0]
      · rw [if_neg i0]
        exact strip_no o (by omega) (least i (by omega) hi)
  rw [q']
  unfold foundF
  rw [kind_at k0 k2]
  simp only
  rw [fi]
  simp only
  rw [shown_wholeM, s.one su]
theorem found_no {h kind : Int} {t : List Int} {R : List (List Int)} (c : ¬ 66048 < t.length) (e : parse t = some R) (ok : rugOk R h = true) (k0 : 0 ≤ kind) (k2 : kind ≤ 2)
    (no : ∀ L, 1 ≤ L → L ≤ 512 → ¬ Makes R (kk kind) h.toNat L) : PyWqbbch.found h kind t = [-5] := by
  obtain ⟨T, rT, eR, _, h2⟩ := rug_right (h := h) (foundF kind.toNat h.toNat) c e
  obtain ⟨o, q⟩ := h2 ok
  have q' : PyWqbbch.found h kind t = RugDNeutral.shown (foundF kind.toNat h.toNat T) := found_eq.trans q
  subst eR
  unfold Makes at no
  rw [enc_wide rT, enc_high rT] at no
  have fi : foundIn T (kk kind) h.toNat = none := by
    unfold foundIn
    rw [List.findSome?_eq_none_iff]
    intro i hi
    have hi : i < SIDE + 1 := List.mem_range.mp hi
    have eS : SIDE = 512 := rfl
    by_cases i0 : i = 0
    · rw [if_pos i0]
    · rw [if_neg i0]
      exact strip_no o (by omega) (no i (by omega) (by omega))
  rw [q']
  unfold foundF
  rw [kind_at k0 k2]
  simp only
  rw [fi]
  rfl
/-! ### from -/
def fromM (kind : Int) (L h W H x y : Nat) : List Int := if inB kind L h W H = true then (if comesOut kind L h W H = true then (if x < W + 2 * h ∧ y < H + 2 * h then [0, ((knot (kk kind) L h W H x y).1 : Nat), ((knot (kk kind) L h W H x y).2.1 : Nat), ((knot (kk kind) L h W H x y).2.2 : Nat)] else [-4]) else [-3]) else [-1]
theorem bounds_iff {L h W H : Nat} : (one L = true ∧ deepOk h = true ∧ one W = true ∧ one H = true) ↔ ((decide (1 ≤ h) && decide (h ≤ 128)) && (sideI L && (sideI W && sideI H))) = true := by
  simp only [one, deepOk, sideI, Bool.and_eq_true, decide_eq_true_eq]
  have a : SIDE = 512 := rfl
  have b : DEEP = 128 := rfl
  omega
theorem from_is {kind : Int} {L h W H x y : Nat} (k0 : 0 ≤ kind) : PyWqbbch.from_of kind L h W H x y = fromM kind L h W H x y := by
  show RugDNeutral.shown (answer (.from_ kind.toNat L h W H x y)) = _
  unfold answer
  dsimp only
  unfold ofKind fromM
  by_cases hk : kind ≤ 2
  · rw [kind_at k0 hk]
    simp only
    have ib : inB kind L h W H = ((decide (1 ≤ h) && decide (h ≤ 128)) && (sideI L && (sideI W && sideI H))) := by
      unfold inB
      rw [decide_eq_true hk, Bool.true_and]
    rw [ib, comes_fits]
    by_cases c : one L = true ∧ deepOk h = true ∧ one W = true ∧ one H = true
    · rw [if_pos c, if_pos (bounds_iff.mp c)]
      cases d : comesOut kind L h W H with
      | false => rfl
      | true =>
        show RugDNeutral.shown (if x < W + 2 * h ∧ y < H + 2 * h then tells 0 (fromTold (fromOf (kk kind) L h W H x y)) else NO) = if x < W + 2 * h ∧ y < H + 2 * h then _ else _
        by_cases e : x < W + 2 * h ∧ y < H + 2 * h
        · rw [if_pos e, if_pos e]
          have cb := bounds_iff.mp c
          simp only [sideI, Bool.and_eq_true, decide_eq_true_eq] at cb
          rw [← knot_is (kk kind) L h W H x y e.1 e.2 (by omega) (by omega) (by omega)]
          cases fromOf (kk kind) L h W H x y <;> rfl
        · rw [if_neg e, if_neg e]
          rfl
    · rw [if_neg c, if_neg fun z => c (bounds_iff.mpr z)]
      rfl
  · rw [kind_none hk]
    have ib : inB kind L h W H = false := by
      unfold inB
      rw [decide_eq_false hk]
      rfl
    rw [ib]
    rfl
end RM
namespace RM
open Wqbbch
/-! ### sizes -/
/-- a row of borders as the numbers tell it: kind, length, depth of each -/
def Row3 := List (Int × Nat × Nat)
def rows3 : List Int → Option (List (Int × Nat × Nat))
  | [] => some []
  | a :: b :: c :: r => if a ≤ 2 ∧ 1 ≤ b ∧ b ≤ 512 ∧ 1 ≤ c ∧ c ≤ 128 then (rows3 r).map fun l => (a, b.toNat, c.toNat) :: l else none
  | _ => none
/-- one way comes out -/
def wayI (kind : Int) (L h W : Nat) : Bool := if kind = 0 then decide (W % L = 0) else if kind = 1 then decide ((W + 2 * h) % (2 * L) = 0) else decide ((W + h) % L = 0)
def allWay : List (Int × Nat × Nat) → Nat → Bool
  | [], W => decide (W ≤ 512)
  | r :: l, W => wayI r.1 r.2.1 r.2.2 W && allWay l (W + 2 * r.2.2)
def GoodSize (l : List (Int × Nat × Nat)) (p W x : Nat) : Prop := W ≤ x ∧ x % p = 0 ∧ allWay l x = true
/-- the least one, if there is one -/
def IsLeast (P : Nat → Prop) (x : Nat) : Prop := P x ∧ ∀ y, y < x → ¬ P y
def toRow (r : Int × Nat × Nat) : Row := ⟨kk r.1, r.2.2, r.2.1⟩
theorem rows_is : ∀ (n : Nat) (bs : List Int), bs.length ≤ n → (∀ b ∈ bs, 0 ≤ b) → rowsOf (RugDNeutral.nats bs) = (rows3 bs).map (fun l => l.map toRow)
  | _, [], _, _ => rfl
  | _, [_], _, _ => rfl
  | _, [_, _], _, _ => rfl
  | 0, _ :: _ :: _ :: _, hn, _ => by simp at hn
  | n + 1, a :: b :: c :: r, hn, h => by
    have a0 : 0 ≤ a := h a (by simp)
    have b0 : 0 ≤ b := h b (by simp)
    have c0 : 0 ≤ c := h c (by simp)
    have ih := rows_is n r (by simp only [List.length_cons] at hn; omega) fun x hx => h x (by simp [hx])
    show (match kindAt a.toNat with
      | none => none
      | some k => if one b.toNat = true ∧ deepOk c.toNat = true then (rowsOf (RugDNeutral.nats r)).map fun l => ⟨k, c.toNat, b.toNat⟩ :: l else none) = (if a ≤ 2 ∧ 1 ≤ b ∧ b ≤ 512 ∧ 1 ≤ c ∧ c ≤ 128 then (rows3 r).map fun l => (a, b.toNat, c.toNat) :: l else none).map _
    have eS : SIDE = 512 := rfl
    have eD : DEEP = 128 := rfl
    by_cases k : a ≤ 2
    · rw [kind_at a0 k]
      simp only
      by_cases d : one b.toNat = true ∧ deepOk c.toNat = true
      · have d' := d
        simp only [one, deepOk, Bool.and_eq_true, decide_eq_true_eq] at d'
        rw [if_pos d, if_pos (by omega), ih]
        cases rows3 r <;> rfl
      · have d' := d
        simp only [one, deepOk, Bool.and_eq_true, decide_eq_true_eq] at d'
        rw [if_neg d, if_neg (by omega)]
        rfl
    · rw [kind_none k, if_neg (fun z => k z.1)]
      rfl
theorem way_is (r : Int × Nat × Nat) (W : Nat) : fitsWay (toRow r).kind (toRow r).long (toRow r).deep W = wayI r.1 r.2.1 r.2.2 W := by
  unfold toRow wayI kk
  simp only
  by_cases c0 : r.1 = 0
  · rw [if_pos c0, if_pos c0]; rfl
  · rw [if_neg c0, if_neg c0]
    by_cases c1 : r.1 = 1
    · rw [if_pos c1, if_pos c1]; rfl
    · rw [if_neg c1, if_neg c1]; rfl
theorem all_is : ∀ (l : List (Int × Nat × Nat)) (W : Nat), allFit (l.map toRow) W = allWay l W
  | [], W => rfl
  | r :: l, W => by
    show (fitsWay (toRow r).kind (toRow r).long (toRow r).deep W && allFit (l.map toRow) (W + 2 * r.2.2)) = _
    rw [way_is, all_is l]
    rfl
theorem all_bound : ∀ (l : List (Int × Nat × Nat)) (W : Nat), allWay l W = true → W ≤ 512
  | [], W, h => of_decide_eq_true h
  | r :: l, W, h => by
    have h' : (wayI r.1 r.2.1 r.2.2 W && allWay l (W + 2 * r.2.2)) = true := h
    rw [Bool.and_eq_true] at h'
    have := all_bound l _ h'.2
    omega
theorem least_some {l : List (Int × Nat × Nat)} {p W x : Nat} (h : IsLeast (GoodSize l p W) x) : leastSize (l.map toRow) p W = some x := by
  obtain ⟨⟨h1, h2, h3⟩, h4⟩ := h
  have hx := all_bound l x h3
  unfold leastSize
  have eS : SIDE = 512 := rfl
  rw [List.find?_range_eq_some]
  simp only [all_is, Bool.and_eq_true, decide_eq_true_eq, beq_iff_eq]
  refine ⟨⟨h1, h2, h3⟩, List.mem_range.mpr (by omega), ?_⟩
  intro y hy
  have n := h4 y hy
  unfold GoodSize at n
  rw [Bool.not_eq_true', Bool.eq_false_iff]
  intro z
  simp only [Bool.and_eq_true, decide_eq_true_eq, beq_iff_eq] at z
  exact n z
theorem least_none {l : List (Int × Nat × Nat)} {p W : Nat} (h : ∀ x, x ≤ 512 → ¬ GoodSize l p W x) : leastSize (l.map toRow) p W = none := by
  unfold leastSize
  have eS : SIDE = 512 := rfl
  rw [List.find?_eq_none]
  intro x hx
  have hx : x < SIDE + 1 := List.mem_range.mp hx
  rw [all_is]
  simp only [Bool.and_eq_true, decide_eq_true_eq, beq_iff_eq]
  exact h x (by omega)
def sizesBounds (p q W H : Int) : Bool := (decide (1 ≤ p) && decide (p ≤ 512)) && ((decide (1 ≤ q) && decide (q ≤ 512)) && ((decide (1 ≤ W) && decide (W ≤ 512)) && (decide (1 ≤ H) && decide (H ≤ 512))))
theorem sizes_long {p q W H : Int} {bs : List Int} (c : 48 < bs.length) : PyWqbbch.sizes p q W H bs = [-2] := by
  show RugDNeutral.shown (answer (.sizes (RugDNeutral.nats bs) p.toNat q.toNat W.toNat H.toNat)) = _
  unfold answer
  simp only
  have e : 3 * BORDERS = 48 := rfl
  have l : (RugDNeutral.nats bs).length = bs.length := by simp [RugDNeutral.nats]
  rw [e, l, if_pos c]
  rfl
theorem sizes_bad {p q W H : Int} {bs : List Int} (c : ¬ 48 < bs.length) (hb : ∀ b ∈ bs, 0 ≤ b) (h : ¬ (sizesBounds p q W H = true ∧ (rows3 bs).isSome = true)) : PyWqbbch.sizes p q W H bs = [-1] := by
  show RugDNeutral.shown (answer (.sizes (RugDNeutral.nats bs) p.toNat q.toNat W.toNat H.toNat)) = _
  unfold answer
  simp only
  have e : 3 * BORDERS = 48 := rfl
  have l : (RugDNeutral.nats bs).length = bs.length := by simp [RugDNeutral.nats]
  have eS : SIDE = 512 := rfl
  rw [e, l, if_neg c]
  by_cases d : one p.toNat = false ∨ one q.toNat = false ∨ one W.toNat = false ∨ one H.toNat = false
  · rw [if_pos d]; rfl
  · rw [if_neg d, rows_is _ bs (Nat.le_refl _) hb]
    cases r : rows3 bs with
    | none => rfl
    | some rows =>
      exfalso
      refine h ⟨?_, by rw [r]; rfl⟩
      simp only [one, ← Bool.not_eq_true, Bool.and_eq_true, decide_eq_true_eq] at d
      simp only [sizesBounds, Bool.and_eq_true, decide_eq_true_eq]
      omega
theorem sizes_due {p q W H : Int} {bs : List Int} {l : List (Int × Nat × Nat)} (c : ¬ 48 < bs.length) (hb : ∀ b ∈ bs, 0 ≤ b) (h : sizesBounds p q W H = true) (r : rows3 bs = some l) :
    (∀ x y, IsLeast (GoodSize l p.toNat W.toNat) x → IsLeast (GoodSize l q.toNat H.toNat) y → PyWqbbch.sizes p q W H bs = [0, ((x : Nat) : Int), ((y : Nat) : Int)]) ∧
    ((∀ x, x ≤ 512 → ¬ GoodSize l p.toNat W.toNat x) → PyWqbbch.sizes p q W H bs = [-5]) ∧ ((∀ x, x ≤ 512 → ¬ GoodSize l q.toNat H.toNat x) → PyWqbbch.sizes p q W H bs = [-5]) := by
  have e : 3 * BORDERS = 48 := rfl
  have ll : (RugDNeutral.nats bs).length = bs.length := by simp [RugDNeutral.nats]
  have eS : SIDE = 512 := rfl
  have hh := h
  simp only [sizesBounds, Bool.and_eq_true, decide_eq_true_eq] at hh
  have d : ¬ (one p.toNat = false ∨ one q.toNat = false ∨ one W.toNat = false ∨ one H.toNat = false) := by
    simp only [one, ← Bool.not_eq_true, Bool.and_eq_true, decide_eq_true_eq]
    omega
  have q0 : PyWqbbch.sizes p q W H bs = RugDNeutral.shown (match leastSize (l.map toRow) p.toNat W.toNat, leastSize (l.map toRow) q.toNat H.toNat with
        | some x, some y => tells 0 [x, y]
        | _, _ => NONE) := by
    show RugDNeutral.shown (answer (.sizes (RugDNeutral.nats bs) p.toNat q.toNat W.toNat H.toNat)) = _
    unfold answer
    simp only
    rw [e, ll, if_neg c, if_neg d, rows_is _ bs (Nat.le_refl _) hb, r]
    simp only [Option.map_some]
    cases leastSize (l.map toRow) p.toNat W.toNat with
    | none => cases leastSize (l.map toRow) q.toNat H.toNat <;> rfl
    | some x => cases leastSize (l.map toRow) q.toNat H.toNat <;> rfl
  rw [q0]
  refine ⟨fun x y hx hy => ?_, fun hx => ?_, fun hy => ?_⟩
  · rw [least_some hx, least_some hy]
    rfl
  · rw [least_none hx]
    rfl
  · rw [least_none hy]
    cases leastSize (l.map toRow) p.toNat W.toNat <;> rfl
end RM
namespace RM
open Wqbbch
/-! ### tables that are filled knot by knot -/
def cell (U : List (List (Option Int))) (i j : Nat) : Option Int := (U.getD j []).getD i none
def blank (w h : Nat) : List (List (Option Int)) := List.replicate h (List.replicate w none)
theorem cell_at {U : List (List (Option Int))} {r : List (Option Int)} {i j : Nat} {c : Option Int} (h1 : U[j]? = some r) (h2 : r[i]? = some c) : cell U i j = c := by
  unfold cell
  rw [List.getD_eq_getElem?_getD, List.getD_eq_getElem?_getD, h1, Option.getD_some, h2, Option.getD_some]
theorem cell_some {U : List (List (Option Int))} {i j : Nat} {c : Int} (h : cell U i j = some c) : ∃ r, U[j]? = some r ∧ r[i]? = some (some c) := by
  unfold cell at h
  rw [List.getD_eq_getElem?_getD, List.getD_eq_getElem?_getD] at h
  cases e : U[j]? with
  | none => rw [e] at h; cases h
  | some r =>
    rw [e, Option.getD_some] at h
    cases e2 : r[i]? with
    | none => rw [e2] at h; cases h
    | some v =>
      rw [e2, Option.getD_some] at h
      exact ⟨r, rfl, by rw [e2, h]⟩
theorem cell_in {U : List (List (Option Int))} {i j w : Nat} (hw : ∀ r ∈ U, r.length = w) (hi : i < w) (hj : j < U.length) : ∃ r, U[j]? = some r ∧ r.length = w ∧ r[i]? = some (cell U i j) := by
  have e := List.getElem?_eq_getElem hj
  have l := hw _ (List.getElem_mem hj)
  have e2 := List.getElem?_eq_getElem (show i < (U[j]).length by omega)
  exact ⟨_, e, l, e2.trans (congrArg some (cell_at e e2).symm)⟩
theorem cell_set {U : List (List (Option Int))} {r : List (Option Int)} {i j : Nat} {c : Option Int} (h1 : U[j]? = some r) (hi : i < r.length) (a b : Nat) : cell (U.set j (r.set i c)) a b = if a = i ∧ b = j then c else cell U a b := by
  have hj := (List.getElem?_eq_some_iff.mp h1).1
  unfold cell
  rw [List.getD_eq_getElem?_getD, List.getD_eq_getElem?_getD, List.getD_eq_getElem?_getD, List.getD_eq_getElem?_getD]
  by_cases eb : b = j
  · subst eb
    rw [List.getElem?_set_self hj, Option.getD_some, h1, Option.getD_some]
    by_cases ea : a = i
    · subst ea
      rw [List.getElem?_set_self hi, if_pos ⟨rfl, rfl⟩, Option.getD_some]
    · rw [List.getElem?_set_ne (Ne.symm ea), if_neg fun z => ea z.1]
  · rw [List.getElem?_set_ne (Ne.symm eb), if_neg fun z => eb z.2]
theorem cell_blank (w h i j : Nat) : cell (blank w h) i j = none := by
  unfold cell blank
  rw [List.getD_eq_getElem?_getD, List.getD_eq_getElem?_getD, List.getElem?_replicate]
  by_cases c : j < h
  · rw [if_pos c, Option.getD_some, List.getElem?_replicate]
    by_cases d : i < w
    · rw [if_pos d]; rfl
    · rw [if_neg d]; rfl
  · rw [if_neg c]; rfl
/-- a table that holds the colours of those knots among S that are (s, i, j), and no others -/
structure Filled (G : Nat → Nat → Nat × Nat × Nat) (R : List (List Int)) (s w h : Nat) (S : Nat → Nat → Prop) (U : List (List (Option Int))) : Prop where
  high : U.length = h
  wide : ∀ r ∈ U, r.length = w
  used : ∀ x y i j, S x y → G x y = (s, i, j) → cell U i j = some (item R x y)
  free : ∀ i j c, cell U i j = some c → ∃ x y, S x y ∧ G x y = (s, i, j) ∧ c = item R x y
section
variable {G : Nat → Nat → Nat × Nat × Nat} {R : List (List Int)} {s w h : Nat} {S S' : Nat → Nat → Prop} {U : List (List (Option Int))} {x y i j : Nat}
theorem filled_start (n : ∀ x y, ¬ S x y) : Filled G R s w h S (blank w h) := by
  refine ⟨by unfold blank; rw [List.length_replicate], fun r hr => ?_, fun x y i j z => absurd z (n x y), fun i j c e => ?_⟩
  · unfold blank at hr
    rw [(List.mem_replicate.mp hr).2, List.length_replicate]
  · rw [cell_blank] at e
    cases e
theorem Filled.eqv (F : Filled G R s w h S U) (e : ∀ a b, S' a b ↔ S a b) : Filled G R s w h S' U :=
  ⟨F.high, F.wide, fun x y i j z g => F.used x y i j ((e x y).mp z) g, fun i j c q => by
    obtain ⟨x, y, z, g⟩ := F.free i j c q
    exact ⟨x, y, (e x y).mpr z, g⟩⟩
theorem Filled.skip (F : Filled G R s w h S U) (e : ∀ a b, S' a b ↔ S a b ∨ (a = x ∧ b = y)) (g : (G x y).1 ≠ s) : Filled G R s w h S' U := by
  refine ⟨F.high, F.wide, fun a b i j z ga => ?_, fun i j c q => ?_⟩
  · rcases (e a b).mp z with z | ⟨rfl, rfl⟩
    · exact F.used a b i j z ga
    · rw [ga] at g
      exact absurd rfl g
  · obtain ⟨a, b, z, ga⟩ := F.free i j c q
    exact ⟨a, b, (e a b).mpr (.inl z), ga⟩
theorem Filled.keep (F : Filled G R s w h S U) (e : ∀ a b, S' a b ↔ S a b ∨ (a = x ∧ b = y)) (g : G x y = (s, i, j)) (c : cell U i j = some (item R x y)) : Filled G R s w h S' U := by
  refine ⟨F.high, F.wide, fun a b i' j' z ga => ?_, fun i j c q => ?_⟩
  · rcases (e a b).mp z with z | ⟨rfl, rfl⟩
    · exact F.used a b i' j' z ga
    · rw [ga] at g
      cases g
      exact c
  · obtain ⟨a, b, z, ga⟩ := F.free i j c q
    exact ⟨a, b, (e a b).mpr (.inl z), ga⟩
theorem Filled.put (F : Filled G R s w h S U) (e : ∀ a b, S' a b ↔ S a b ∨ (a = x ∧ b = y)) (g : G x y = (s, i, j)) {r : List (Option Int)} (hr : U[j]? = some r) (hi : i < w) (c : cell U i j = none) :
    Filled G R s w h S' (U.set j (r.set i (some (item R x y)))) := by
  have lr : r.length = w := F.wide r (List.mem_of_getElem? hr)
  have cs := cell_set (c := some (item R x y)) hr (show i < r.length by omega)
  refine ⟨by rw [List.length_set]; exact F.high, fun q hq => ?_, fun a b i' j' z ga => ?_, fun i' j' c' q => ?_⟩
  · rcases List.mem_or_eq_of_mem_set hq with z | z
    · exact F.wide q z
    · rw [z, List.length_set]
      exact lr
  · rw [cs]
    rcases (e a b).mp z with z | ⟨rfl, rfl⟩
    · have u := F.used a b i' j' z ga
      rw [if_neg fun y => by rw [y.1, y.2, c] at u; cases u]
      exact u
    · rw [ga] at g
      cases g
      rw [if_pos ⟨rfl, rfl⟩]
  · rw [cs] at q
    by_cases d : i' = i ∧ j' = j
    · rw [if_pos d] at q
      cases q
      exact ⟨x, y, (e x y).mpr (.inr ⟨rfl, rfl⟩), by rw [d.1, d.2]; exact g, rfl⟩
    · rw [if_neg d] at q
      obtain ⟨a, b, z, ga⟩ := F.free i' j' c' q
      exact ⟨a, b, (e a b).mpr (.inl z), ga⟩
theorem Filled.clash (F : Filled G R s w h S U) {c : Int} (q : cell U i j = some c) (n : c ≠ item R x y) : ∃ a b, S a b ∧ G a b = (s, i, j) ∧ item R a b ≠ item R x y := by
  obtain ⟨a, b, z, ga, rfl⟩ := F.free i j c q
  exact ⟨a, b, z, ga, n⟩
end
/-- the rug's knots ahead of (x, y), row by row -/
def Ahead (w x y a b : Nat) : Prop := a < w ∧ (b < y ∨ (b = y ∧ a < x))
theorem ahead_none (w a b : Nat) : ¬ Ahead w 0 0 a b := fun z => by
  obtain ⟨_, z | z⟩ := z <;> omega
theorem ahead_more {w x y : Nat} (hx : x < w) (a b : Nat) : Ahead w (x + 1) y a b ↔ Ahead w x y a b ∨ (a = x ∧ b = y) := by
  unfold Ahead
  omega
theorem ahead_row {w y : Nat} (a b : Nat) : Ahead w 0 (y + 1) a b ↔ Ahead w w y a b := by
  unfold Ahead
  omega
/-! ### a row folded to a length -/
structure Fold1 (r : List (Option Int)) (L n : Nat) (s : List (Option Int)) : Prop where
  len : s.length = L
  used : ∀ (i : Nat) (c : Int), i < n → r[i]? = some (some c) → s[i % L]? = some (some c)
  free : ∀ (m : Nat) (c : Int), s[m]? = some (some c) → ∃ i : Nat, i < n ∧ i % L = m ∧ r[i]? = some (some c)
def Clash1 (r : List (Option Int)) (L : Nat) : Prop := ∃ (i i' : Nat) (c c' : Int), r[i]? = some (some c) ∧ r[i']? = some (some c') ∧ i % L = i' % L ∧ c ≠ c'
theorem fold1_start (r : List (Option Int)) (L : Nat) : Fold1 r L 0 (List.replicate L none) := by
  refine ⟨List.length_replicate, fun i c hi => absurd hi (Nat.not_lt_zero _), fun m c e => ?_⟩
  rw [List.getElem?_replicate] at e
  by_cases d : m < L
  · rw [if_pos d] at e; cases e
  · rw [if_neg d] at e; cases e
section
variable {r s : List (Option Int)} {L n : Nat}
theorem Fold1.skip (F : Fold1 r L n s) (e : r[n]? = some none) : Fold1 r L (n + 1) s := by
  refine ⟨F.len, fun i c hi q => ?_, fun m c q => ?_⟩
  · by_cases d : i = n
    · subst d
      rw [e] at q
      cases q
    · exact F.used i c (by omega) q
  · obtain ⟨i, hi, z⟩ := F.free m c q
    exact ⟨i, by omega, z⟩
theorem Fold1.keep (F : Fold1 r L n s) {c : Int} (e : r[n]? = some (some c)) (q : s[n % L]? = some (some c)) : Fold1 r L (n + 1) s := by
  refine ⟨F.len, fun i c' hi q' => ?_, fun m c q => ?_⟩
  · by_cases d : i = n
    · subst d
      rw [e] at q'
      cases q'
      exact q
    · exact F.used i c' (by omega) q'
  · obtain ⟨i, hi, z⟩ := F.free m c q
    exact ⟨i, by omega, z⟩
theorem Fold1.put (F : Fold1 r L n s) {c : Int} (e : r[n]? = some (some c)) (q : s[n % L]? = some none) : Fold1 r L (n + 1) (s.set (n % L) (some c)) := by
  have hm := (List.getElem?_eq_some_iff.mp q).1
  refine ⟨by rw [List.length_set]; exact F.len, fun i c' hi q' => ?_, fun m c' q' => ?_⟩
  · by_cases d : i = n
    · subst d
      rw [e] at q'
      cases q'
      exact List.getElem?_set_self hm
    · have u := F.used i c' (by omega) q'
      by_cases d2 : i % L = n % L
      · rw [d2, q] at u
        cases u
      · rw [List.getElem?_set_ne (Ne.symm d2)]
        exact u
  · by_cases d : m = n % L
    · subst d
      rw [List.getElem?_set_self hm] at q'
      cases q'
      exact ⟨n, by omega, rfl, e⟩
    · rw [List.getElem?_set_ne (Ne.symm d)] at q'
      obtain ⟨i, hi, z⟩ := F.free m c' q'
      exact ⟨i, by omega, z⟩
theorem Fold1.clash (F : Fold1 r L n s) {c d : Int} (e : r[n]? = some (some c)) (q : s[n % L]? = some (some d)) (ne : d ≠ c) : Clash1 r L := by
  obtain ⟨i, _, z1, z2⟩ := F.free (n % L) d q
  exact ⟨i, n, d, c, z2, e, z1, ne⟩
end
/-- all rows are folded -/
structure FoldTab (U : List (List (Option Int))) (L : Nat) (S : List (List (Option Int))) : Prop where
  len : S.length = U.length
  row : ∀ (j : Nat) (r s : List (Option Int)), U[j]? = some r → S[j]? = some s → Fold1 r L r.length s
def ClashTab (U : List (List (Option Int))) (L : Nat) : Prop := ∃ r ∈ U, Clash1 r L
theorem FoldTab.no {U S : List (List (Option Int))} {L : Nat} (F : FoldTab U L S) : ¬ ClashTab U L := by
  rintro ⟨r, hr, i, i', c, c', e, e', m, n⟩
  obtain ⟨j, hj⟩ := List.getElem?_of_mem hr
  have hjl := (List.getElem?_eq_some_iff.mp hj).1
  have hs := List.getElem?_eq_getElem (show j < S.length by rw [F.len]; exact hjl)
  have f := F.row j r _ hj hs
  have a := f.used i c (List.getElem?_eq_some_iff.mp e).1 e
  have b := f.used i' c' (List.getElem?_eq_some_iff.mp e').1 e'
  rw [m, b] at a
  cases a
  exact n rfl
/-- a knot of no known colour gets colour a -/
def colRow (s : List (Option Int)) : List Int := s.map fun c => c.getD 97
def colAll (S : List (List (Option Int))) : List (List Int) := S.map colRow
/-! ### a knot of the border, at any length of the strip -/
theorem raw_of {k : Kind} {h W H x y s n j : Nat} (e : ∀ L, knot k L h W H x y = (s, if s = 1 then n % L else n, j)) (b : n < max W H + 2 * h) : ∃ s n j, n < max W H + 2 * h ∧ ∀ L, knot k L h W H x y = (s, if s = 1 then n % L else n, j) := ⟨s, n, j, b, e⟩
theorem seen_small {h W H x y : Nat} (hx : x < W + 2 * h) (hy : y < H + 2 * h) : (seen h W H x y).1 < max W H + 2 * h := by
  unfold seen
  by_cases c1 : x < W + h ∧ y < h
  · rw [if_pos c1]; show x < _; omega
  · rw [if_neg c1]
    by_cases c2 : W + h ≤ x ∧ y < H + h
    · rw [if_pos c2]; show y < _; omega
    · rw [if_neg c2]
      by_cases c3 : h ≤ x ∧ H + h ≤ y
      · rw [if_pos c3]; show W + 2 * h - 1 - x < _; omega
      · rw [if_neg c3]; show H + 2 * h - 1 - y < _; omega
theorem knot_raw (k : Kind) {h W H x y : Nat} (hx : x < W + 2 * h) (hy : y < H + 2 * h) : ∃ s n j, n < max W H + 2 * h ∧ ∀ L, knot k L h W H x y = (s, if s = 1 then n % L else n, j) := by
  have hs := seen_small hx hy
  by_cases c : h ≤ x ∧ x < W + h ∧ h ≤ y ∧ y < H + h
  · refine ⟨0, x - h, y - h, by omega, fun L => ?_⟩
    unfold knot
    rw [if_pos c, if_neg (by decide)]
  · cases k with
    | met =>
      refine ⟨1, max (min x (W + 2 * h - 1 - x)) (min y (H + 2 * h - 1 - y)), min (min x (W + 2 * h - 1 - x)) (min y (H + 2 * h - 1 - y)), by omega, fun L => ?_⟩
      unfold knot
      rw [if_neg c, if_pos rfl]
    | run =>
      refine ⟨1, (seen h W H x y).1, (seen h W H x y).2, hs, fun L => ?_⟩
      unfold knot
      rw [if_neg c, if_pos rfl]
    | set =>
      by_cases d : (seen h W H x y).1 < h
      · refine ⟨2, (seen h W H x y).1, (seen h W H x y).2, hs, fun L => ?_⟩
        rw [if_neg (by decide)]
        unfold knot
        rw [if_neg c]
        simp only
        rw [if_pos d]
      · refine ⟨1, (seen h W H x y).1 - h, (seen h W H x y).2, by omega, fun L => ?_⟩
        unfold knot
        rw [if_neg c, if_pos rfl]
        simp only
        rw [if_neg d]
/-- the whole strip's knot tells that of each length -/
theorem knot_strip {k : Kind} {h W H x y w i j : Nat} (hx : x < W + 2 * h) (hy : y < H + 2 * h) (hw : max W H + 2 * h ≤ w) (e : knot k w h W H x y = (1, i, j)) (L : Nat) : knot k L h W H x y = (1, i % L, j) := by
  obtain ⟨s, n, j', b, q⟩ := knot_raw k hx hy
  rw [q] at e
  have e1 : s = 1 := congrArg Prod.fst e
  subst e1
  rw [if_pos rfl] at e
  have e2 : n % w = i := congrArg (fun p => p.2.1) e
  have e3 : j' = j := congrArg (fun p => p.2.2) e
  rw [Nat.mod_eq_of_lt (by omega)] at e2
  rw [q, if_pos rfl, e2, e3]
theorem knot_unwound {k : Kind} {h W H x y w L i j : Nat} (hx : x < W + 2 * h) (hy : y < H + 2 * h) (hw : max W H + 2 * h ≤ w) (e : knot k L h W H x y = (1, i, j)) : ∃ n, knot k w h W H x y = (1, n, j) ∧ n % L = i := by
  obtain ⟨s, n, j', b, q⟩ := knot_raw k hx hy
  rw [q] at e
  have e1 : s = 1 := congrArg Prod.fst e
  subst e1
  rw [if_pos rfl] at e
  have e2 : n % L = i := congrArg (fun p => p.2.1) e
  have e3 : j' = j := congrArg (fun p => p.2.2) e
  exact ⟨n, by rw [q, if_pos rfl, Nat.mod_eq_of_lt (by omega), e3], e2⟩
theorem knot_corner {k : Kind} {h W H x y L L' i j : Nat} (hx : x < W + 2 * h) (hy : y < H + 2 * h) (e : knot k L h W H x y = (2, i, j)) : knot k L' h W H x y = (2, i, j) := by
  obtain ⟨s, n, j', b, q⟩ := knot_raw k hx hy
  rw [q] at e
  have e1 : s = 2 := congrArg Prod.fst e
  subst e1
  rw [if_neg (by decide)] at e
  rw [q, if_neg (by decide)]
  exact e
theorem knot_two {k : Kind} {h W H x y L i j : Nat} (e : knot k L h W H x y = (2, i, j)) : k = .set := by
  unfold knot at e
  by_cases c : h ≤ x ∧ x < W + h ∧ h ≤ y ∧ y < H + h
  · rw [if_pos c] at e; exact absurd (congrArg Prod.fst e) (by show ¬ (0 : Nat) = 2; decide)
  · rw [if_neg c] at e
    cases k with
    | set => rfl
    | met => exact absurd (congrArg Prod.fst e) (by show ¬ (1 : Nat) = 2; decide)
    | run => exact absurd (congrArg Prod.fst e) (by show ¬ (1 : Nat) = 2; decide)
/-! ### what the tables tell -/
/-- within the rug -/
def Within (W H h a b : Nat) : Prop := a < W + 2 * h ∧ b < H + 2 * h
/-- two knots of the rug are the same knot of s and differ in colour -/
def Differ (R : List (List Int)) (G : Nat → Nat → Nat × Nat × Nat) (s W H h : Nat) : Prop := ∃ x y x' y' i j, Within W H h x y ∧ Within W H h x' y' ∧ G x y = (s, i, j) ∧ G x' y' = (s, i, j) ∧ item R x y ≠ item R x' y'
section
variable {R : List (List Int)} {k : Kind} {h W H L w : Nat} {U S : List (List (Option Int))}
theorem differ_strip (hw : max W H + 2 * h ≤ w) (d : Differ R (knot k w h W H) 1 W H h) : ¬ OneCol R k L h W H := by
  rintro a
  obtain ⟨x, y, x', y', i, j, ⟨z1, z2⟩, ⟨z3, z4⟩, e, e', n⟩ := d
  have q := knot_strip z1 z2 hw e L
  have q' := knot_strip z3 z4 hw e' L
  exact n (a x y x' y' z1 z2 z3 z4 (by rw [q]; show ¬ (1 : Nat) = 0; decide) (q.trans q'.symm))
theorem differ_corner (d : Differ R (knot k w h W H) 2 W H h) : ¬ OneCol R k L h W H := by
  rintro a
  obtain ⟨x, y, x', y', i, j, ⟨z1, z2⟩, ⟨z3, z4⟩, e, e', n⟩ := d
  have q := knot_corner (L' := L) z1 z2 e
  have q' := knot_corner (L' := L) z3 z4 e'
  exact n (a x y x' y' z1 z2 z3 z4 (by rw [q]; show ¬ (2 : Nat) = 0; decide) (q.trans q'.symm))
theorem clash_no (hw : max W H + 2 * h ≤ w) (F : Filled (knot k w h W H) R 1 w h (Within W H h) U) (c : ClashTab U L) : ¬ OneCol R k L h W H := by
  rintro a
  obtain ⟨r, hr, i, i', c, c', e, e', m, n⟩ := c
  obtain ⟨j, hj⟩ := List.getElem?_of_mem hr
  obtain ⟨x, y, ⟨z1, z2⟩, g, rfl⟩ := F.free i j c (cell_at hj e)
  obtain ⟨x', y', ⟨z3, z4⟩, g', rfl⟩ := F.free i' j c' (cell_at hj e')
  have q := knot_strip z1 z2 hw g L
  have q' := knot_strip z3 z4 hw g' L
  rw [← m] at q'
  exact n (a x y x' y' z1 z2 z3 z4 (by rw [q]; show ¬ (1 : Nat) = 0; decide) (q.trans q'.symm))
theorem fold_yes (hw : max W H + 2 * h ≤ w) (F : Filled (knot k w h W H) R 1 w h (Within W H h) U) (T : FoldTab U L S) (cor : k = .set → ∃ w' C, Filled (knot k w' h W H) R 2 h h (Within W H h) C) (hL : 1 ≤ L) : OneCol R k L h W H := by
  intro x y x' y' z1 z2 z3 z4 n0 e
  have I := knot_in k (L := L) z1 z2 hL
  cases q : knot k L h W H x y with
  | mk q1 r =>
  obtain ⟨i, j⟩ := r
  rw [q] at I n0 e
  have h3 : q1 = 1 ∨ q1 = 2 := by
    have z : q1 ≤ 2 := I.a
    have z2 : q1 ≠ 0 := n0
    omega
  rcases h3 with rfl | rfl
  · obtain ⟨n, g, m⟩ := knot_unwound z1 z2 hw q
    obtain ⟨n', g', m'⟩ := knot_unwound z3 z4 hw e.symm
    have c := F.used x y n j ⟨z1, z2⟩ g
    have c' := F.used x' y' n' j ⟨z3, z4⟩ g'
    obtain ⟨r, hr, e1⟩ := cell_some c
    obtain ⟨r', hr', e2⟩ := cell_some c'
    rw [hr] at hr'
    cases hr'
    apply Classical.byContradiction
    intro ne
    exact T.no ⟨r, List.mem_of_getElem? hr, n, n', _, _, e1, e2, m.trans m'.symm, ne⟩
  · obtain ⟨w', C, FC⟩ := cor (knot_two q)
    have c := FC.used x y i j ⟨z1, z2⟩ (knot_corner z1 z2 q)
    have c' := FC.used x' y' i j ⟨z3, z4⟩ (knot_corner z3 z4 e.symm)
    rw [c] at c'
    exact Option.some.inj c'
theorem col_item {s : List (Option Int)} {i j : Nat} {v : Option Int} (h1 : S[j]? = some s) (h2 : s[i]? = some v) : item (colAll S) i j = v.getD 97 := by
  unfold item colAll
  rw [List.getD_eq_getElem?_getD, List.getD_eq_getElem?_getD, List.getElem?_map, h1, Option.map_some, Option.getD_some]
  unfold colRow
  rw [List.getElem?_map, h2, Option.map_some, Option.getD_some]
theorem fold_strip (hw : max W H + 2 * h ≤ w) (F : Filled (knot k w h W H) R 1 w h (Within W H h) U) (T : FoldTab U L S) : IsStrip R k L h W H (colAll S) := by
  have lS : S.length = h := T.len.trans F.high
  refine ⟨by unfold colAll; rw [List.length_map]; exact lS, fun r hr => ?_, fun x y i j z1 z2 e => ?_, fun i j hi hj n => ?_⟩
  · unfold colAll at hr
    obtain ⟨s, hs, rfl⟩ := List.mem_map.mp hr
    obtain ⟨j, hj⟩ := List.getElem?_of_mem hs
    have hjl := (List.getElem?_eq_some_iff.mp hj).1
    have hu := List.getElem?_eq_getElem (show j < U.length by rw [← T.len]; exact hjl)
    unfold colRow
    rw [List.length_map]
    exact (T.row j _ s hu hj).len
  · obtain ⟨m, g, em⟩ := knot_unwound z1 z2 hw e
    obtain ⟨r, hr, e1⟩ := cell_some (F.used x y m j ⟨z1, z2⟩ g)
    have hjl := (List.getElem?_eq_some_iff.mp hr).1
    have hs := List.getElem?_eq_getElem (show j < S.length by rw [T.len]; exact hjl)
    have f := T.row j r _ hr hs
    have u := f.used m _ (List.getElem?_eq_some_iff.mp e1).1 e1
    rw [em] at u
    rw [col_item hs u]
    rfl
  · have hjl : j < S.length := by omega
    have hs := List.getElem?_eq_getElem hjl
    have hu := List.getElem?_eq_getElem (show j < U.length by rw [← T.len]; exact hjl)
    have f := T.row j _ _ hu hs
    have hsi := List.getElem?_eq_getElem (show i < (S[j]).length by rw [f.len]; exact hi)
    rw [col_item hs hsi]
    cases e : (S[j])[i]'(by rw [f.len]; exact hi) with
    | none => rfl
    | some c =>
      exfalso
      rw [e] at hsi
      obtain ⟨m, _, em, e2⟩ := f.free i c hsi
      obtain ⟨x, y, ⟨z1, z2⟩, g, _⟩ := F.free m j c (cell_at hu e2)
      have q := knot_strip z1 z2 hw g L
      rw [em] at q
      exact n x y z1 z2 q
/-! ### the corner -/
theorem knot_first {L i j : Nat} (hi : i < h) (hj : j < h) (hW : 1 ≤ W) : knot .set L h W H i j = (2, i, j) := by
  unfold knot
  rw [if_neg (by omega)]
  have e : seen h W H i j = (i, j) := if_pos (by omega)
  simp only [e]
  rw [if_pos hi]
theorem corner_tab (hW : 1 ≤ W) (F : Filled (knot .set w h W H) R 2 h h (Within W H h) U) : U = (cutRows R 0 0 h h).map fun r => r.map some := by
  refine List.ext_getElem ?_ fun j hj hj' => ?_
  · rw [F.high, List.length_map]
    unfold cutRows
    rw [List.length_map, List.length_range]
  have hjh : j < h := by rw [← F.high]; exact hj
  have lw := F.wide _ (List.getElem_mem hj)
  refine List.ext_getElem ?_ fun i hi hi' => ?_
  · rw [lw]
    simp [cutRows]
  have hih : i < h := by omega
  have c := F.used i j i j ⟨by omega, by omega⟩ (knot_first hih hjh hW)
  have z := cell_at (List.getElem?_eq_getElem hj) (List.getElem?_eq_getElem hi)
  rw [z] at c
  rw [c]
  simp [cutRows]
end
theorem corners_yes {R : List (List Int)} {h w : Nat} {U : List (List (Option Int))} (ow : 2 * h < wideOf R) (ov : 2 * h < R.length)
    (F : Filled (knot .set w h (wideOf R - 2 * h) (R.length - 2 * h)) R 2 h h (Within (wideOf R - 2 * h) (R.length - 2 * h) h) U) : CornersOne R h := by
  intro x y i j hx hy e
  have z1 : x < wideOf R - 2 * h + 2 * h := by omega
  have z2 : y < R.length - 2 * h + 2 * h := by omega
  have I := knot_in .set (L := 1) z1 z2 (Nat.le_refl 1)
  rw [e] at I
  obtain ⟨_, hi, hj⟩ := I.c rfl
  have hi : i < h := hi
  have hj : j < h := hj
  have c := F.used x y i j ⟨z1, z2⟩ (knot_corner z1 z2 e)
  have c' := F.used i j i j ⟨by omega, by omega⟩ (knot_first hi hj (by omega))
  rw [c] at c'
  exact Option.some.inj c'
theorem corners_no {R : List (List Int)} {h w : Nat} (ow : 2 * h < wideOf R) (ov : 2 * h < R.length)
    (d : Differ R (knot .set w h (wideOf R - 2 * h) (R.length - 2 * h)) 2 (wideOf R - 2 * h) (R.length - 2 * h) h) : ¬ CornersOne R h := by
  intro a
  obtain ⟨x, y, x', y', i, j, ⟨z1, z2⟩, ⟨z3, z4⟩, e, e', n⟩ := d
  exact n ((a x y i j (by omega) (by omega) (knot_corner z1 z2 e)).trans (a x' y' i j (by omega) (by omega) (knot_corner z3 z4 e')).symm)
end RM
/-! ### the text by places -/
namespace RH
open PySem PySem.Spec PyProof.Rows L2
open PySem.W (Codec WData)
open RM
def top (i : Nat) : Stmt := PySem.Challenge.pw_rugborders_s05_found.main.body.getD i (.Pass ⟨0, 0, 0, 0⟩)
abbrev sLong : Stmt := top 6
abbrev sCol : Stmt := top 7
abbrev sSide : Stmt := top 8
abbrev sSize : Stmt := top 9
abbrev sIsCh : Stmt := top 10
abbrev sChart : Stmt := top 11
abbrev sDep : Stmt := top 25
abbrev sLeaves : Stmt := top 28
abbrev sRead : Stmt := top 24
abbrev sText : Stmt := top 12
abbrev sTold : Stmt := top 22
abbrev sTia : Stmt := top 23
abbrev sSeen : Stmt := top 35
abbrev sKnot : Stmt := top 34
abbrev sTake : Stmt := top 32
abbrev sGath : Stmt := top 30
abbrev sAlong : Stmt := top 27
abbrev sOut : Stmt := top 26
abbrev sFold : Stmt := top 31
abbrev sAllC : Stmt := top 33
abbrev sShort : Stmt := top 29
abbrev sFound : Stmt := top 21
/-! ### charts in the heap -/
inductive RowsAt (H : Hp) : List Addr → List (List Int) → Prop
  | nil : RowsAt H [] []
  | cons {a : Addr} {r : List Int} {as : List Addr} {rs : List (List Int)} : H a = some (.lst (r.map V.int)) → RowsAt H as rs → RowsAt H (a :: as) (r :: rs)
theorem RowsAt.len {H : Hp} : ∀ {as : List Addr} {rs : List (List Int)}, RowsAt H as rs → as.length = rs.length
  | _, _, .nil => rfl
  | _, _, .cons _ h => congrArg (· + 1) h.len
theorem RowsAt.same {H H' : Hp} (s : Same H H') : ∀ {as : List Addr} {rs : List (List Int)}, RowsAt H as rs → RowsAt H' as rs
  | _, _, .nil => .nil
  | _, _, .cons e h => .cons (s _ _ e) (h.same s)
theorem RowsAt.push {H : Hp} {a : Addr} {r : List Int} (e : H a = some (.lst (r.map V.int))) : ∀ {as : List Addr} {rs : List (List Int)}, RowsAt H as rs → RowsAt H (as ++ [a]) (rs ++ [r])
  | _, _, .nil => .cons e .nil
  | _, _, .cons e' h => .cons e' (h.push e)
theorem RowsAt.upd {H : Hp} {p : Addr} {o : HO} : ∀ {as : List Addr} {rs : List (List Int)}, RowsAt H as rs → p ∉ as → RowsAt (upd H p o) as rs
  | _, _, .nil, _ => .nil
  | _, _, .cons e h, n => .cons (by rw [upd_ne (fun z => n (by rw [z]; exact List.mem_cons_self ..))]; exact e) (h.upd fun z => n (List.mem_cons_of_mem _ z))
theorem RowsAt.get {H : Hp} : ∀ {as : List Addr} {rs : List (List Int)} {i : Nat} {a : Addr}, RowsAt H as rs → as[i]? = some a → ∃ r, rs[i]? = some r ∧ H a = some (.lst (r.map V.int))
  | _, _, i, a, .nil, h => by simp at h
  | _, _, 0, a, .cons e _, h => by
    have z := Option.some.inj h
    subst z
    exact ⟨_, rfl, e⟩
  | _, _, i + 1, a, .cons _ h', h => RowsAt.get (i := i) h' h
theorem RowsAt.mem {H : Hp} : ∀ {as : List Addr} {rs : List (List Int)} {a : Addr}, RowsAt H as rs → a ∈ as → ∃ o, H a = some o
  | _, _, a, .nil, h => by cases h
  | _, _, a, .cons e h', h => by
    rcases List.mem_cons.mp h with z | z
    · subst z
      exact ⟨_, e⟩
    · exact h'.mem z
def ChartAt (H : Hp) (a : Addr) (rs : List (List Int)) : Prop := ∃ as : List Addr, H a = some (.lst (as.map V.ref)) ∧ RowsAt H as rs
theorem ChartAt.same {H H' : Hp} (s : Same H H') {a : Addr} {rs : List (List Int)} (h : ChartAt H a rs) : ChartAt H' a rs := by
  obtain ⟨as, e, r⟩ := h
  exact ⟨as, s _ _ e, r.same s⟩
theorem same_new {H : Hp} {p : Addr} (h : H p = none) (o : HO) : Same H (upd H p o) := fun b u q => by rw [upd_ne (ne_of_none q h)]; exact q
/-- what was tracked at first stands, though an object made since is changed -/
theorem same_put {H H' : Hp} {p : Addr} (s : Same H H') (h : H p = none) (o : HO) : Same H (upd H' p o) := fun b u q => by rw [upd_ne (ne_of_none q h)]; exact s b u q
theorem map_at {α : Type} {f : α → V} {l : List α} {i : Nat} {y : V} (hi : (l.map f)[i]? = some y) : ∃ z, l[i]? = some z ∧ y = f z := by
  rw [List.getElem?_map] at hi
  cases e : l[i]? with
  | none => rw [e] at hi; cases hi
  | some z => rw [e] at hi; exact ⟨z, rfl, (Option.some.inj hi).symm⟩
theorem drop_at {α : Type} {l : List α} {i : Nat} {z : α} (h : l[i]? = some z) : l.drop i = z :: l.drop (i + 1) := by
  obtain ⟨hi, e⟩ := List.getElem?_eq_some_iff.mp h
  rw [← e]
  exact List.drop_eq_getElem_cons hi
/-! ### numbers -/
def sideZ (n : Int) : Bool := decide (1 ≤ n) && decide (n ≤ 512)
def sizeZ (w h : Int) : Bool := sideZ w && (sideZ h && decide (w * h ≤ 65536))
def inZ (kind L h W Hh : Int) : Bool := (decide (kind ≤ 2) && (decide (1 ≤ h) && decide (h ≤ 128))) && (sideZ L && (sideZ W && sideZ Hh))
def outZ (kind L h W Hh : Int) : Bool := if kind = 0 then decide (W % L = 0) && decide (Hh % L = 0) else if kind = 1 then decide ((W + 2 * h) % (2 * L) = 0) && decide ((Hh + 2 * h) % (2 * L) = 0) else decide ((W + h) % L = 0) && decide ((Hh + h) % L = 0)
theorem side_nat (n : Nat) : sideZ (n : Int) = sideI n := by
  rw [Bool.eq_iff_iff]
  simp only [sideZ, sideI, Bool.and_eq_true, decide_eq_true_eq]
  omega
theorem size_nat (w h : Nat) : sizeZ (w : Int) (h : Int) = sizeOkI w h := by
  have e : ((w : Int) * (h : Int) ≤ 65536) ↔ w * h ≤ 65536 := by
    rw [← Int.natCast_mul]
    omega
  rw [Bool.eq_iff_iff]
  simp only [sizeZ, sizeOkI, sideZ, Bool.and_eq_true, decide_eq_true_eq, e]
  omega
theorem in_nat (kind : Int) (L h W Hh : Nat) : inZ kind L h W Hh = inB kind L h W Hh := by
  rw [Bool.eq_iff_iff]
  simp only [inZ, inB, sideZ, sideI, Bool.and_eq_true, decide_eq_true_eq]
  omega
theorem mod_nat (a b : Nat) : decide (((a : Nat) : Int) % ((b : Nat) : Int) = 0) = decide (a % b = 0) := by
  rw [← Int.natCast_emod]
  rw [Bool.eq_iff_iff]
  simp only [decide_eq_true_eq]
  omega
theorem out_nat (kind : Int) (L h W Hh : Nat) : outZ kind L h W Hh = comesOut kind L h W Hh := by
  unfold outZ comesOut
  have e1 : ((W : Int) + 2 * (h : Int)) = ((W + 2 * h : Nat) : Int) := by omega
  have e2 : ((Hh : Int) + 2 * (h : Int)) = ((Hh + 2 * h : Nat) : Int) := by omega
  have e3 : (2 * (L : Int)) = ((2 * L : Nat) : Int) := by omega
  have e4 : ((W : Int) + (h : Int)) = ((W + h : Nat) : Int) := by omega
  have e5 : ((Hh : Int) + (h : Int)) = ((Hh + h : Nat) : Int) := by omega
  rw [e1, e2, e3, e4, e5]
  simp only [mod_nat]
theorem pe_gi {X : Cx} {x : Str} {i : Int} {t : Tok} {pos : Pos} (hg : Gl X x) (hm : X.mg x = some (.int i t)) (hd : (x == ("__debug__" : Str)) = false := by decide) : PE X (.Name x pos) (tC (.int i)) := pe_glob (v := .int i) hg hm ⟨t, rfl⟩ hd
theorem dvi (a b : Int) : decide (V.int a = V.int b) = decide (a = b) := by
  rw [Bool.eq_iff_iff]
  simp only [decide_eq_true_eq]
  exact ⟨fun h => V.int.inj h, fun h => congrArg V.int h⟩
theorem bl_of {Q : VK} {H : Hp} {c d : Bool} (q : Q (.bl c) H) (e : c = d) : Q (.bl d) H := e ▸ q
theorem at_zero {α : Type} (x : α) (l : List α) : atI (x :: l) 0 = some x := atI_nat (j := 0) rfl
theorem line_small {n : Nat} (h : n ≤ 1000000) : n < sizeLine := Nat.lt_of_le_of_lt h (by rw [sizeLine_eq]; decide)
theorem take_more {α : Type} {l : List α} {i : Nat} {x : α} (h : l[i]? = some x) : l.take (i + 1) = l.take i ++ [x] := by
  rw [List.take_add_one, h]
  rfl
theorem PE.weak {X : Cx} {e : Expr} {t t' : TE} (h : PE X e t) (w : ∀ σ H Q, t' σ H Q → t σ H Q) : PE X e t' := ⟨fun pins s σ H Q I hw => h.run pins s σ H Q I (w σ H Q hw)⟩
theorem se_name (x : Str) (p : Pos) (es : List Expr) (env : Env) : starEach (.Name x p :: es) env = (false, eval (.Name x p) env) :: starEach es env := rfl
theorem pn {X : Cx} (i : Nat) {x : Str} {p : Pos} {es : List Expr} {t : TA} (hr : PA X es t) (hN : X.N[i]? = some x := by rfl) (hv : Vis X.env.scope x := by first | exact Or.inl rfl | exact Or.inr (Or.inl rfl) | exact Or.inr (Or.inr rfl)) (hd : (x == ("__debug__" : Str)) = false := by decide)
    (hcd : (x == ("__classdict__" : Str)) = false := by decide) : PA X (.Name x p :: es) (tCons (tVar i) t) := pa_cons (pe_var hN hv hd hcd) hr (se_name _ _ _ _)
structure Defs (K : PySem.W.Frag) (P : Program) (w : World) (mg : Str → Option Value) (base : Heap) (k : Nat) (x : Str) (ps : List Str) (sp : Sp) (f : Addr) (fd : FuncData) : Prop where
  G : FnOk P w K mg base CX0 k f fd ps sp
  b : Binds K fd ps []
  kp : PySem.W.keepIn K (.ref f) = true
  m : mg x = some (.ref f)
theorem PT.weak {X : Cx} {e : Expr} {t t' : TT} (h : PT X e t) (w : ∀ σ H Q, t' σ H Q → t σ H Q) : PT X e t' := ⟨fun pins s σ H Q I hw => h.run pins s σ H Q I (w σ H Q hw)⟩
theorem at_one {α : Type} (x y : α) (l : List α) : atI (x :: y :: l) 1 = some y := atI_nat (j := 1) rfl
theorem at_two {α : Type} (x y z : α) (l : List α) : atI (x :: y :: z :: l) 2 = some z := atI_nat (j := 2) rfl
section
variable {P : Program} {w : World} {K : PySem.W.Frag} {mg : Str → Option Value} {base : Heap} {f : Addr} {fd : FuncData}
def spLong (K : PySem.W.Frag) : Sp := fun vs H Q _ => ∃ (a : Addr) (xs : List V), vs = [.ref a] ∧ SqL K H a xs ∧ Q (.bl (decide ((66048 : Int) < (xs.length : Nat)))) H
theorem scLong : FnScope ["text"] ["text"] (defScope sLong) := ⟨rfl, rfl, rfl, by decide +kernel, rfl, by decide +kernel, by decide +kernel⟩
theorem ok_long {t : Tok} (F : Fun K "is_too_long" "is_too_long" sLong f fd) (ml : mg "len" = none) (mB : mg "MOST_BYTES" = some (.int 66048 t)) : FnOk P w K mg base CX0 1 f fd ["text"] (spLong K) := by
  refine F.ok scLong (fun vs H Q E h => ?_) (fun cdv A outer s H vs Q E hr h => ?_)
  · obtain ⟨a, xs, rfl, _⟩ := h
    rfl
  obtain ⟨a, xs, rfl, hS, q⟩ := h
  refine ⟨_, pss_one (ps_ret (pe_cmpR op_gt (pe_callB call_len_seq rfl ml PySem.boot_len (pa_cons (pv 0) pa_nil)) (pe_gi rfl mB) (nomark _))), ?_⟩
  exact ⟨_, rfl, a, _, rfl, .inl hS, _, _, rfl, rfl, q⟩
theorem long_iff {xs : List Int} : decide ((66048 : Int) < (((xs.map V.int).length : Nat) : Int)) = decide (66048 < xs.length) := by
  rw [List.length_map, Bool.eq_iff_iff]
  simp only [decide_eq_true_eq]
  omega
def spCol : Sp := fun vs H Q _ => ∃ b : Int, vs = [.int b] ∧ Q (.bl (isCol b)) H
theorem scCol : FnScope ["byte"] ["byte"] (defScope sCol) := ⟨rfl, rfl, rfl, by decide +kernel, rfl, by decide +kernel, by decide +kernel⟩
theorem col_of {b : Int} {c : Bool} {Q : VK} {H : Hp} (q : Q (.bl (isCol b)) H) (e : isCol b = true ↔ c = true) : Q (.bl c) H := by
  rw [← Bool.eq_iff_iff.mpr e]
  exact q
theorem isCol_iff {b : Int} : isCol b = true ↔ (97 ≤ b ∧ b ≤ 122) ∨ (65 ≤ b ∧ b ≤ 90) ∨ (48 ≤ b ∧ b ≤ 57) := by
  simp only [isCol, Bool.or_eq_true, Bool.and_eq_true, decide_eq_true_eq]
theorem ok_col (F : Fun K "is_colour" "is_colour" sCol f fd) : FnOk P w K mg base CX0 1 f fd ["byte"] spCol := by
  refine F.ok scCol (fun vs H Q E h => ?_) (fun cdv A outer s H vs Q E hr h => ?_)
  · obtain ⟨b, rfl, _⟩ := h
    rfl
  obtain ⟨b, rfl, q⟩ := h
  refine ⟨_, pss_one (ps_ret (pe_or (pe_chain op_le op_le pe_int (pv 0) pe_int) (pe_or (pe_chain op_le op_le pe_int (pv 0) pe_int) (pe_one (pe_chain op_le op_le pe_int (pv 0) pe_int))))), ?_⟩
  have last : ∀ c : Bool, (isCol b = true ↔ c = true) → Q (.bl c) H := fun c e => col_of q e
  have dd : ∀ {p : Prop} [Decidable p], (decide p = true) ↔ p := fun {p} _ => decide_eq_true_iff
  -- a chain: ahead of its end
  refine ⟨_, rfl, _, _, rfl, rfl, _, rfl, ite2 (fun c => ?_) (fun c => ?_)⟩
  · have c := of_decide_eq_true c
    refine ⟨_, _, rfl, rfl, _, rfl, ite2 (fun d => ?_) (fun d => ?_)⟩
    · have d := of_decide_eq_true d
      exact last true ⟨fun _ => rfl, fun _ => isCol_iff.mpr (by omega)⟩
    · have d : ¬ b ≤ 122 := fun z => d (decide_eq_true z)
      refine ⟨_, rfl, _, _, rfl, rfl, _, rfl, ite2 (fun c2 => ?_) (fun c2 => ?_)⟩
      · refine ⟨_, _, rfl, rfl, _, rfl, ite2 (fun d2 => ?_) (fun d2 => ?_)⟩
        · have d2 : b ≤ 90 := of_decide_eq_true d2
          omega
        · refine ⟨_, rfl, _, _, rfl, rfl, _, rfl, ite2 (fun c3 => ?_) (fun c3 => ?_)⟩
          · refine ⟨_, _, rfl, rfl, ?_⟩
            exact last _ (by rw [isCol_iff, dd]; omega)
          · have c3 : ¬ 48 ≤ b := fun z => c3 (decide_eq_true z)
            omega
      · have c2 : ¬ 65 ≤ b := fun z => c2 (decide_eq_true z)
        omega
  · have c : ¬ 97 ≤ b := fun z => c (decide_eq_true z)
    refine ⟨_, rfl, iteF ?_⟩
    refine ⟨_, rfl, _, _, rfl, rfl, _, rfl, ite2 (fun c2 => ?_) (fun c2 => ?_)⟩
    · have c2 : 65 ≤ b := of_decide_eq_true c2
      refine ⟨_, _, rfl, rfl, _, rfl, ite2 (fun d2 => ?_) (fun d2 => ?_)⟩
      · have d2 : b ≤ 90 := of_decide_eq_true d2
        exact last true ⟨fun _ => rfl, fun _ => isCol_iff.mpr (by omega)⟩
      · have d2 : ¬ b ≤ 90 := fun z => d2 (decide_eq_true z)
        refine ⟨_, rfl, _, _, rfl, rfl, _, rfl, ite2 (fun c3 => ?_) (fun c3 => ?_)⟩
        · refine ⟨_, _, rfl, rfl, ?_⟩
          exact last _ (by rw [isCol_iff, dd]; omega)
        · have c3 : ¬ 48 ≤ b := fun z => c3 (decide_eq_true z)
          omega
    · have c2 : ¬ 65 ≤ b := fun z => c2 (decide_eq_true z)
      refine ⟨_, rfl, iteF ?_⟩
      refine ⟨_, rfl, _, _, rfl, rfl, _, rfl, ite2 (fun c3 => ?_) (fun c3 => ?_)⟩
      · have c3 : 48 ≤ b := of_decide_eq_true c3
        refine ⟨_, _, rfl, rfl, ?_⟩
        exact last _ (by rw [isCol_iff, dd]; omega)
      · have c3 : ¬ 48 ≤ b := fun z => c3 (decide_eq_true z)
        exact last _ (by rw [isCol_iff]; simp only [Bool.false_eq_true, iff_false]; omega)
def spSide : Sp := fun vs H Q _ => ∃ n : Int, vs = [.int n] ∧ Q (.bl (sideZ n)) H
theorem scSide : FnScope ["number"] ["number"] (defScope sSide) := ⟨rfl, rfl, rfl, by decide +kernel, rfl, by decide +kernel, by decide +kernel⟩
theorem ok_side {t : Tok} (F : Fun K "is_side" "is_side" sSide f fd) (mS : mg "MOST_SIDE" = some (.int 512 t)) : FnOk P w K mg base CX0 1 f fd ["number"] spSide := by
  refine F.ok scSide (fun vs H Q E h => ?_) (fun cdv A outer s H vs Q E hr h => ?_)
  · obtain ⟨b, rfl, _⟩ := h
    rfl
  obtain ⟨b, rfl, q⟩ := h
  refine ⟨_, pss_one (ps_ret (pe_chain op_le op_le pe_int (pv 0) (pe_gi rfl mS))), ?_⟩
  unfold sideZ at q
  refine ⟨_, rfl, _, _, rfl, rfl, _, rfl, ite2 (fun c => ?_) (fun c => ?_)⟩
  · rw [c] at q
    exact ⟨_, _, rfl, rfl, q⟩
  · rw [Bool.eq_false_iff.mpr c] at q
    exact q
def spSize : Sp := fun vs H Q _ => ∃ w h : Int, vs = [.int w, .int h] ∧ Q (.bl (sizeZ w h)) H
theorem scSize : FnScope ["width", "height"] ["width", "height"] (defScope sSize) := ⟨rfl, rfl, rfl, by decide +kernel, rfl, by decide +kernel, by decide +kernel⟩
theorem ok_size {t : Tok} {fS : Addr} {fdS : FuncData} (F : Fun K "is_chart_size" "is_chart_size" sSize f fd) (G : FnOk P w K mg base CX0 1 fS fdS ["number"] spSide) (bS : Binds K fdS ["number"] []) (kS : PySem.W.keepIn K (.ref fS) = true) (mS : mg "is_side" = some (.ref fS)) (mK : mg "MOST_KNOTS" = some (.int 65536 t)) : FnOk P w K mg base CX0 2 f fd ["width", "height"] spSize := by
  refine F.ok scSize (fun vs H Q E h => ?_) (fun cdv A outer s H vs Q E hr h => ?_)
  · obtain ⟨a, b, rfl, _⟩ := h
    rfl
  obtain ⟨a, b, rfl, q⟩ := h
  refine ⟨_, pss_one (ps_ret (pe_and (pe_call G hr rfl mS kS bS .nil pass0 (pa_cons (pv 0) pa_nil)) (pe_and (pe_call G hr rfl mS kS bS .nil pass0 (pa_cons (pv 1) pa_nil)) (pe_one (pe_cmpR op_le (pe_op op_mul (pv 0) (pv 1)) (pe_gi rfl mK) (nomark _)))))), ?_⟩
  unfold sizeZ at q
  refine ⟨_, rfl, a, rfl, _, rfl, ite2 (fun c => ?_) (fun c => ?_)⟩
  · rw [c] at q
    refine ⟨_, rfl, b, rfl, _, rfl, ite2 (fun d => ?_) (fun d => ?_)⟩
    · rw [d] at q
      have c' : 1 ≤ a ∧ a ≤ 512 := by simpa only [sideZ, Bool.and_eq_true, decide_eq_true_eq] using c
      exact ⟨_, rfl, _, rfl, _, _, rfl, rfl, .inl ⟨by omega, by omega⟩, _, _, rfl, rfl, q⟩
    · rw [Bool.eq_false_iff.mpr d] at q
      exact q
  · rw [Bool.eq_false_iff.mpr c] at q
    exact q
def spIsCh (K : PySem.W.Frag) : Sp := fun vs H Q _ => ∃ (a : Addr) (as : List Addr) (rs : List (List Int)), vs = [.ref a] ∧ SqL K H a (as.map V.ref) ∧ RowsAt H as rs ∧ Q (.bl (isChart rs)) H
theorem scIsCh : FnScope ["rows", "width", "row"] ["rows"] (defScope sIsCh) := ⟨rfl, rfl, rfl, by decide +kernel, rfl, by decide +kernel, by decide +kernel⟩
theorem ok_isCh {fS : Addr} {fdS : FuncData} (F : Fun K "is_chart" "is_chart" sIsCh f fd) (G : FnOk P w K mg base CX0 2 fS fdS ["width", "height"] spSize) (bS : Binds K fdS ["width", "height"] []) (kS : PySem.W.keepIn K (.ref fS) = true) (mS : mg "is_chart_size" = some (.ref fS)) (ml : mg "len" = none) :
    FnOk P w K mg base CX0 3 f fd ["rows"] (spIsCh K) := by
  refine F.ok scIsCh (fun vs H Q E h => ?_) (fun cdv A outer s H vs Q E hr h => ?_)
  · obtain ⟨a, as, rs, rfl, _⟩ := h
    rfl
  obtain ⟨a, as, rs, rfl, hS, hR, q⟩ := h
  refine ⟨_, pss_cons (ps_if (pt_not (pt_truth (pv 0) (by intro _; rfl))) (pss_one (ps_ret pe_bl)) pss_nil)
    (pss_cons (ps_set (i := 1) scIsCh.nd rfl (.inl rfl) (pe_callB call_len_seq rfl ml PySem.boot_len (pa_cons (pe_ix ix_list (pv 0) pe_int (fun _ _ => rfl)) pa_nil)))
    (pss_cons (ps_for PassesOwn.never rfl (pi_list (pv 0)) (pg_name (i := 2) scIsCh.nd rfl (.inl rfl)) (pss_one (ps_if (pt_cmpR op_ne (pe_callB call_len_seq rfl ml PySem.boot_len (pa_cons (pv 2) pa_nil)) (pv 1) (nomark _)) (pss_one (ps_ret pe_bl)) pss_nil)))
    (pss_one (ps_ret (pe_call G hr rfl mS kS bS .nil pass0 (pa_cons (pv 1) (pa_cons (pe_callB call_len_seq rfl ml PySem.boot_len (pa_cons (pv 0) pa_nil)) pa_nil))))))), ?_⟩
  have hl := hR.len
  refine ⟨_, rfl, _, .inl ⟨_, hS, rfl⟩, ?_⟩
  cases hR with
  | nil => exact iteT q
  | cons e0 hR' =>
  rename_i a0 r0 as' rs'
  refine iteF ?_
  refine ⟨_, rfl, a, _, 0, .ref a0, rfl, rfl, hS, at_zero _ _, a0, _, rfl, .inl (SqL.of e0), ?_⟩
  have hRR : RowsAt H (a0 :: as') (r0 :: rs') := .cons e0 hR'
  have e0l : (r0.map V.int).length = r0.length := List.length_map _
  refine ⟨_, rfl, a, rfl, ⟨_, hS⟩, for_list (K := K) (a := a) (xs := (a0 :: as').map V.ref) (fun i σ H' => ∃ v : Option V, σ = [some (.ref a), some (.int (r0.length : Nat)), v] ∧ H' = H ∧ ∀ j r, j < i → (r0 :: rs')[j]? = some r → r.length = r0.length)
    ⟨none, by rw [e0l]; rfl, rfl, fun j r hj => absurd hj (Nat.not_lt_zero _)⟩ (fun i σ H' _ ⟨_, _, e, _⟩ => by rw [e]; exact hS) ?_ ?_⟩
  · rintro i y σ H' hi ⟨v, rfl, rfl, hall⟩
    obtain ⟨b, hb, rfl⟩ := map_at hi
    obtain ⟨r, hr1, hr2⟩ := hRR.get hb
    have erl : (r.map V.int).length = r.length := List.length_map _
    refine ⟨_, rfl, b, _, rfl, .inl (SqL.of hr2), _, rfl, rfl, _, rfl, ?_⟩
    rw [dvi, erl]
    by_cases c : r.length = r0.length
    · rw [decide_eq_true (show ((r.length : Nat) : Int) = ((r0.length : Nat) : Int) by omega)]
      refine iteF ⟨some (.ref b), rfl, rfl, fun j r' hj hr' => ?_⟩
      by_cases hji : j = i
      · subst hji
        rw [hr1] at hr'
        cases hr'
        exact c
      · exact hall j r' (by omega) hr'
    · rw [decide_eq_false (show ¬ ((r.length : Nat) : Int) = ((r0.length : Nat) : Int) by omega)]
      refine iteT ?_
      refine bl_of q ?_
      unfold isChart
      have z : (r0 :: rs').all (fun r => decide (r.length = wideOf (r0 :: rs'))) = false := by
        rw [Bool.eq_false_iff]
        intro z
        rw [List.all_eq_true] at z
        have := z r (List.mem_of_getElem? hr1)
        exact c (of_decide_eq_true this)
      rw [z, Bool.and_false, Bool.false_and]
  · rintro σ H' ⟨v, rfl, rfl, hall⟩
    refine ⟨_, rfl, _, rfl, a, _, rfl, .inl hS, (r0.length : Nat), _, rfl, ?_⟩
    have z : (r0 :: rs').all (fun r => decide (r.length = wideOf (r0 :: rs'))) = true := by
      rw [List.all_eq_true]
      intro r hr'
      obtain ⟨j, hj⟩ := List.getElem?_of_mem hr'
      have hjl : j < (r0 :: rs').length := (List.getElem?_eq_some_iff.mp hj).1
      exact decide_eq_true (hall j r (by rw [List.length_map, hl]; exact hjl) hj)
    refine bl_of q ?_
    unfold isChart
    rw [z, List.length_map, hl, size_nat]
    rfl
/-! ### chart_of -/
/-- what a text's reading hands back: None, or a chart -/
def OptCh (H : Hp) (x : V) (o : Option (List (List Int))) : Prop := (x = .non ∧ o = none) ∨ ∃ p rs, x = .ref p ∧ o = some rs ∧ ChartAt H p rs
theorem OptCh.same {H H' : Hp} (s : Same H H') {x : V} {o : Option (List (List Int))} (h : OptCh H x o) : OptCh H' x o := by
  rcases h with h | ⟨p, rs, e1, e2, c⟩
  · exact .inl h
  · exact .inr ⟨p, rs, e1, e2, c.same s⟩
def spChart (K : PySem.W.Frag) : Sp := fun vs H Q _ => ∃ (a : Addr) (ns : List Int), vs = [.ref a] ∧ SqL K H a (ns.map V.int) ∧ ns.length ≤ 66048 ∧ ∀ x H', Same H H' → OptCh H' x (parse ns) → Q x H'
structure ReadAt (H H' : Hp) (pr pq : Addr) (rows : List (List Int)) (row : List Int) : Prop where
  same : Same H H'
  nr : H pr = none
  nq : H pq = none
  ne : pr ≠ pq
  ch : ∃ as : List Addr, H' pr = some (.lst (as.map V.ref)) ∧ RowsAt H' as rows ∧ pq ∉ as ∧ pr ∉ as
  at_ : H' pq = some (.lst (row.map V.int))
theorem scChart : FnScope ["text", "rows", "row", "byte"] ["text"] (defScope sChart) := ⟨rfl, rfl, rfl, by decide +kernel, rfl, by decide +kernel, by decide +kernel⟩
theorem ok_chart {t : Tok} {fC fI : Addr} {fdC fdI : FuncData} (F : Fun K "chart_of" "chart_of" sChart f fd) (GC : FnOk P w K mg base CX0 1 fC fdC ["byte"] spCol) (bC : Binds K fdC ["byte"] []) (kC : PySem.W.keepIn K (.ref fC) = true) (mC : mg "is_colour" = some (.ref fC))
    (GI : FnOk P w K mg base CX0 3 fI fdI ["rows"] (spIsCh K)) (bI : Binds K fdI ["rows"] []) (kI : PySem.W.keepIn K (.ref fI) = true) (mI : mg "is_chart" = some (.ref fI)) (mE : mg "ROW_END" = some (.int 10 t)) :
    FnOk P w K mg base CX0 4 f fd ["text"] (spChart K) := by
  refine F.ok scChart (fun vs H Q E h => ?_) (fun cdv A outer s H vs Q E hr h => ?_)
  · obtain ⟨a, ns, rfl, _⟩ := h
    rfl
  obtain ⟨a, ns, rfl, hS, hlen, q⟩ := h
  have qN : parse ns = none → ∀ H', Same H H' → Q .non H' := fun e H' s => q _ _ s (.inl ⟨rfl, e⟩)
  have qS : ∀ rs, parse ns = some rs → ∀ p H', Same H H' → ChartAt H' p rs → Q (.ref p) H' := fun rs e p H' s c => q _ _ s (.inr ⟨p, rs, rfl, e, c⟩)
  have hr1 : Room 1 _ := hr.mono (by decide)
  refine ⟨_, pss_cons (ps_set (i := 1) scChart.nd rfl (.inl rfl) (pe_lst pa_nil)) (pss_cons (ps_set (i := 2) scChart.nd rfl (.inl rfl) (pe_lst pa_nil))
    (pss_cons (ps_for PassesOwn.never rfl (pi_list (pv 0)) (pg_name (i := 3) scChart.nd rfl (.inl rfl))
      (pss_one (ps_if (pt_cmpR op_eq (pv 3) (pe_gi rfl mE) (nomark _))
        (pss_cons (ps_expr (pe_bm PySem.F.plainAttrs_list PySem.F.slot_list_append PySem.F.type_list_append mt_append (pv 1) (pa_cons (pv 2) pa_nil))) (pss_one (ps_set (i := 2) scChart.nd rfl (.inl rfl) (pe_lst pa_nil))))
        (pss_one (ps_if (pt_val (pe_call GC hr1 rfl mC kC bC .nil pass0 (pa_cons (pv 3) pa_nil))) (pss_one (ps_expr (pe_bm PySem.F.plainAttrs_list PySem.F.slot_list_append PySem.F.type_list_append mt_append (pv 2) (pa_cons (pv 3) pa_nil)))) (pss_one (ps_ret pe_non)))))))
    (pss_cons (ps_if (PW.pt (pw_or (pt_truth (pv 2) (by intro _; rfl)) (pw_or1 (pt_not (pt_val (pe_call GI hr rfl mI kI bI .nil pass0 (pa_cons (pv 1) pa_nil))))))) (pss_one (ps_ret pe_non)) pss_nil)
    (pss_one (ps_ret (pv 1)))))), ?_⟩
  refine ⟨(by show 0 ≤ sizeLine; decide), fun pr hpr => ⟨(by show 0 ≤ sizeLine; decide), fun pq hpq => ?_⟩⟩
  have nrq : pr ≠ pq := ne_of_none upd_same hpq
  have hpq0 : H pq = none := by rw [upd_ne (Ne.symm nrq)] at hpq; exact hpq
  have s0 : Same H (upd (upd H pr (.lst [])) pq (.lst [])) := (same_new hpr _).trans (same_new hpq _)
  refine ⟨_, rfl, a, rfl, ⟨_, s0.seq hS⟩, for_list (K := K) (a := a) (xs := ns.map V.int) (fun i σ H' => ∃ (pq : Addr) (v : Option V) (rows : List (List Int)) (row : List Int), σ = [some (.ref a), some (.ref pr), some (.ref pq), v] ∧ ReadAt H H' pr pq rows row ∧ rows.length ≤ i ∧ row.length ≤ i ∧ parseGo ns [] [] = parseGo (ns.drop i) rows row)
    ⟨pq, none, [], [], rfl, ⟨s0, hpr, hpq0, nrq, ⟨[], by rw [upd_ne nrq]; exact upd_same, .nil, by simp, by simp⟩, upd_same⟩, Nat.le_refl _, Nat.le_refl _, by rw [List.drop_zero]⟩
    (fun i σ H' _ ⟨_, _, _, _, _, R, _⟩ => R.same.seq hS) ?_ ?_⟩
  · rintro i y σ H' hi ⟨pq, v, rows, row, rfl, R, hz1, hz2, hp⟩
    obtain ⟨b, hb, rfl⟩ := map_at hi
    have hil : i < ns.length := (List.getElem?_eq_some_iff.mp hb).1
    rw [drop_at hb] at hp
    obtain ⟨as, c1, c2, c3, c4⟩ := R.ch
    have al := c2.len
    refine ⟨_, rfl, rfl, _, rfl, ?_⟩
    rw [dvi]
    by_cases d : b = 10
    · rw [decide_eq_true d]
      refine iteT ?_
      refine ⟨_, rfl, .inl ⟨rfl, _, SqL.of c1⟩, _, rfl, pr, _, _, rfl, rfl, c1, (by rw [List.length_map, al]; exact line_small (by omega)), (by show 0 ≤ sizeLine; decide), fun pn hpn => ?_⟩
      have npr : pr ≠ pn := ne_of_none upd_same hpn
      have hpn' : H' pn = none := by rw [upd_ne (Ne.symm npr)] at hpn; exact hpn
      refine ⟨pn, some (.int b), rows ++ [row], [], rfl, ⟨(same_put R.same R.nr _).trans (same_new hpn _), R.nr, R.same.free hpn', npr, ⟨as ++ [pq], ?_, ?_, ?_, ?_⟩, upd_same⟩, by rw [List.length_append, List.length_singleton]; omega, Nat.zero_le _, ?_⟩
      · rw [upd_ne npr, upd_same, List.map_append]
        rfl
      · refine ((c2.push R.at_).upd ?_).upd ?_
        · intro z
          rcases List.mem_append.mp z with z | z
          · exact c4 z
          · exact R.ne (List.mem_singleton.mp z)
        · intro z
          rcases List.mem_append.mp z with z | z
          · obtain ⟨o, ho⟩ := c2.mem z
            rw [ho] at hpn'; cases hpn'
          · rw [List.mem_singleton.mp z] at hpn'
            rw [R.at_] at hpn'; cases hpn'
      · intro z
        rcases List.mem_append.mp z with z | z
        · obtain ⟨o, ho⟩ := c2.mem z
          rw [ho] at hpn'; cases hpn'
        · rw [List.mem_singleton.mp z, R.at_] at hpn'; cases hpn'
      · intro z
        rcases List.mem_append.mp z with z | z
        · exact c4 z
        · exact R.ne (List.mem_singleton.mp z)
      · rw [hp]
        show (if b = 10 then parseGo (ns.drop (i + 1)) (rows ++ [row]) [] else _) = _
        rw [if_pos d]
    · rw [decide_eq_false d]
      refine iteF ?_
      refine ⟨_, rfl, b, rfl, _, rfl, ite2 (fun c => ?_) (fun c => ?_)⟩
      · refine ⟨_, rfl, .inl ⟨rfl, _, SqL.of R.at_⟩, _, rfl, pq, _, _, rfl, rfl, R.at_, (by rw [List.length_map]; exact line_small (by omega)), ?_⟩
        refine ⟨pq, some (.int b), rows, row ++ [b], rfl, ⟨same_put R.same R.nq _, R.nr, R.nq, R.ne, ⟨as, ?_, c2.upd c3, c3, c4⟩, ?_⟩, by omega, by rw [List.length_append, List.length_singleton]; omega, ?_⟩
        · rw [upd_ne R.ne]; exact c1
        · rw [upd_same, List.map_append]; rfl
        · rw [hp]
          show (if b = 10 then _ else if isCol b = true then parseGo (ns.drop (i + 1)) rows (row ++ [b]) else none) = _
          rw [if_neg d, if_pos c]
      · refine qN ?_ H' R.same
        unfold parse
        rw [hp]
        show (match (if b = 10 then parseGo (ns.drop (i + 1)) (rows ++ [row]) [] else if isCol b = true then parseGo (ns.drop (i + 1)) rows (row ++ [b]) else none) with
          | none => none
          | some (rows, row) => if row = [] ∧ isChart rows = true then some rows else none) = none
        rw [if_neg d, if_neg c]
  · rintro σ H' ⟨pq, v, rows, row, rfl, R, hz1, hz2, hp⟩
    rw [List.length_map, List.drop_length] at hp
    obtain ⟨as, c1, c2, c3, c4⟩ := R.ch
    have hpa : parse ns = if row = [] ∧ isChart rows = true then some rows else none := by
      unfold parse
      rw [hp]
      rfl
    refine ⟨_, rfl, _, .inl ⟨_, SqL.of R.at_, rfl⟩, ?_⟩
    cases row with
    | cons x r =>
      refine iteT ?_
      refine iteT ?_
      exact qN (by rw [hpa, if_neg (fun z => by cases z.1)]) H' R.same
    | nil =>
      refine iteF ?_
      refine ⟨_, rfl, pr, as, rows, rfl, SqL.of c1, c2, _, rfl, ?_⟩
      cases e : isChart rows with
      | false =>
        refine iteT ?_
        exact qN (by rw [hpa, if_neg (fun z => by rw [e] at z; cases z.2)]) H' R.same
      | true =>
        refine iteF ?_
        exact ⟨_, rfl, qS rows (by rw [hpa, if_pos ⟨rfl, e⟩]) pr H' R.same ⟨as, c1, c2⟩⟩
theorem opt_none {H : Hp} {x : V} (h : OptCh H x none) : x = .non := by
  rcases h with h | ⟨p, rs, _, e, _⟩
  · exact h.1
  · cases e
theorem opt_some {H : Hp} {x : V} {rs : List (List Int)} (h : OptCh H x (some rs)) : ∃ p, x = .ref p ∧ ChartAt H p rs := by
  rcases h with h | ⟨p, rs', e, e', c⟩
  · cases h.2
  · cases e'
    exact ⟨p, e, c⟩
theorem dec_ref {p : Addr} : decide (V.ref p = V.non) = false := decide_eq_false (fun z => by cases z)
/-! ### is_depth -/
def depthZ (n : Int) : Bool := decide (1 ≤ n) && decide (n ≤ 128)
def spDep : Sp := fun vs H Q _ => ∃ n : Int, vs = [.int n] ∧ Q (.bl (depthZ n)) H
theorem scDep : FnScope ["h"] ["h"] (defScope sDep) := ⟨rfl, rfl, rfl, by decide +kernel, rfl, by decide +kernel, by decide +kernel⟩
theorem ok_dep {t : Tok} (F : Fun K "is_depth" "is_depth" sDep f fd) (mS : mg "MOST_DEPTH" = some (.int 128 t)) : FnOk P w K mg base CX0 1 f fd ["h"] spDep := by
  refine F.ok scDep (fun vs H Q E h => ?_) (fun cdv A outer s H vs Q E hr h => ?_)
  · obtain ⟨b, rfl, _⟩ := h
    rfl
  obtain ⟨b, rfl, q⟩ := h
  refine ⟨_, pss_one (ps_ret (pe_chain op_le op_le pe_int (pv 0) (pe_gi rfl mS))), ?_⟩
  unfold depthZ at q
  refine ⟨_, rfl, _, _, rfl, rfl, _, rfl, ite2 (fun c => ?_) (fun c => ?_)⟩
  · rw [c] at q
    exact ⟨_, _, rfl, rfl, q⟩
  · rw [Bool.eq_false_iff.mpr c] at q
    exact q
theorem chart_cons {R : List (List Int)} (h : isChart R = true) : ∃ r rs, R = r :: rs := by
  cases R with
  | nil => cases h
  | cons r rs => exact ⟨r, rs, rfl⟩
/-- len(x[0]) of a chart that has a row -/
theorem row0_at {H : Hp} {a : Addr} {R : List (List Int)} (h : ChartAt H a R) (hc : isChart R = true) : ∃ (as : List Addr) (b : Addr) (xs : List V), H a = some (.lst (as.map V.ref)) ∧ as.length = R.length ∧ atI (as.map V.ref) 0 = some (.ref b) ∧ H b = some (.lst xs) ∧ xs.length = wideOf R := by
  obtain ⟨as, hA, hR⟩ := h
  obtain ⟨r, rs, rfl⟩ := chart_cons hc
  have hl := hR.len
  cases hR with
  | cons e0 hR' => exact ⟨_, _, _, hA, hl, at_zero _ _, e0, List.length_map _⟩
/-! ### leaves_field -/
def spLeaves : Sp := fun vs H Q _ => ∃ (h : Int) (a : Addr) (R : List (List Int)), vs = [.int h, .ref a] ∧ ChartAt H a R ∧ isChart R = true ∧ Q (.bl (rugOk R h)) H
theorem scLeaves : FnScope ["h", "rug"] ["h", "rug"] (defScope sLeaves) := ⟨rfl, rfl, rfl, by decide +kernel, rfl, by decide +kernel, by decide +kernel⟩
theorem ok_leaves {fD : Addr} {dD : FuncData} (F : Fun K "leaves_field" "leaves_field" sLeaves f fd) (ml : mg "len" = none) (D : Defs K P w mg base 1 "is_depth" ["h"] spDep fD dD) : FnOk P w K mg base CX0 2 f fd ["h", "rug"] spLeaves := by
  refine F.ok scLeaves (fun vs H Q E h => ?_) (fun cdv A outer s H vs Q E hr h => ?_)
  · obtain ⟨h, a, R, rfl, _⟩ := h
    rfl
  obtain ⟨h, a, R, rfl, hA, iR, q⟩ := h
  refine ⟨_, pss_one (ps_ret (pe_and (pe_call D.G hr rfl D.m D.kp D.b .nil pass0 (pn 0 pa_nil))
    (pe_and (pe_cmpR op_lt (pe_op op_mul pe_int (pv 0)) (pe_callB call_len_seq rfl ml PySem.boot_len (pa_cons (pe_ix ix_list (pv 1) pe_int (fun _ _ => rfl)) pa_nil)) (nomark _))
    (pe_one (pe_cmpR op_lt (pe_op op_mul pe_int (pv 0)) (pe_callB call_len_seq rfl ml PySem.boot_len (pn 1 pa_nil)) (nomark _)))))), ?_⟩
  obtain ⟨as, b, xs, eA, lA, zA, eB, wR⟩ := row0_at hA iR
  have e : rugOk R h = (depthZ h && (decide (2 * h < (wideOf R : Nat)) && decide (2 * h < (R.length : Nat)))) := rfl
  rw [e] at q
  refine ⟨_, rfl, h, rfl, _, rfl, ?_⟩
  cases e1 : depthZ h with
  | false =>
    rw [e1] at q
    exact iteF q
  | true =>
  rw [e1] at q
  have hd : 1 ≤ h ∧ h ≤ 128 := by
    simpa only [depthZ, Bool.and_eq_true, decide_eq_true_eq] using e1
  refine iteT ?_
  refine ⟨_, rfl, _, _, rfl, rfl, .inl ⟨by decide, by decide⟩, _, rfl, a, _, _, _, rfl, rfl, SqL.of eA, zA, b, _, rfl, .inl (SqL.of eB), _, _, rfl, rfl, _, rfl, ?_⟩
  rw [wR]
  by_cases c1 : 2 * h < (wideOf R : Nat)
  · rw [decide_eq_true c1] at q ⊢
    refine iteT ?_
    refine ⟨_, rfl, _, _, rfl, rfl, .inl ⟨by decide, by decide⟩, _, rfl, a, _, rfl, .inl (SqL.of eA), _, _, rfl, rfl, ?_⟩
    rw [List.length_map, lA]
    exact q
  · rw [decide_eq_false c1] at q ⊢
    exact iteF q
theorem parse_chart {ns : List Int} {rs : List (List Int)} (e : parse ns = some rs) : isChart rs = true := by
  unfold parse at e
  cases e1 : parseGo ns [] [] with
  | none => rw [e1] at e; cases e
  | some p =>
    rw [e1] at e
    have e' : (if p.2 = [] ∧ isChart p.1 = true then some p.1 else none) = some rs := e
    by_cases c : p.2 = [] ∧ isChart p.1 = true
    · rw [if_pos c] at e'
      cases e'
      exact c.2
    · rw [if_neg c] at e'
      cases e'
/-! ### read_rug -/
def readM (h : Int) (t : List Int) : Int := if 66048 < t.length then -2 else match parse t with
  | none => -6
  | some R => if rugOk R h = true then 0 else -1
/-- what read_rug hands back beside the number -/
def ReadAs (H : Hp) (h : Int) (t : List Int) (x : V) : Prop := readM h t = 0 → ∃ R p, ¬ 66048 < t.length ∧ parse t = some R ∧ rugOk R h = true ∧ x = .ref p ∧ ChartAt H p R
def spRead (K : PySem.W.Frag) : Sp := fun vs H Q _ => ∃ (h : Int) (a : Addr) (t : List Int), vs = [.int h, .ref a] ∧ SqL K H a (t.map V.int) ∧ ∀ p H' x, Same H H' → H' p = some (.tup [.int (readM h t), x]) → ReadAs H' h t x → Q (.ref p) H'
theorem scRead : FnScope ["h", "t", "rug"] ["h", "t"] (defScope sRead) := ⟨rfl, rfl, rfl, by decide +kernel, rfl, by decide +kernel, by decide +kernel⟩
theorem ok_read {fL fC fV : Addr} {dL dC dV : FuncData} (F : Fun K "read_rug" "read_rug" sRead f fd) (L : Defs K P w mg base 1 "is_too_long" ["text"] (spLong K) fL dL) (C : Defs K P w mg base 4 "chart_of" ["text"] (spChart K) fC dC)
    (U : Defs K P w mg base 2 "leaves_field" ["h", "rug"] spLeaves fV dV) : FnOk P w K mg base CX0 5 f fd ["h", "t"] (spRead K) := by
  refine F.ok scRead (fun vs H Q E h => ?_) (fun cdv A outer s H vs Q E hr h => ?_)
  · obtain ⟨h, a, t, rfl, _⟩ := h
    rfl
  obtain ⟨h, a, t, rfl, ht, q⟩ := h
  have hr1 : Room 1 _ := hr.mono (by decide)
  have hr2 : Room 2 _ := hr.mono (by decide)
  refine ⟨_, pss_cons (ps_if (pt_val (pe_call L.G hr1 rfl L.m L.kp L.b .nil pass0 (pn 1 pa_nil))) (pss_one (ps_ret (pe_tup (pa_cons (pe_un un_neg pe_int) (pa_cons pe_non pa_nil))))) pss_nil)
    (pss_cons (ps_set (i := 2) scRead.nd rfl (.inl rfl) (pe_call C.G hr rfl C.m C.kp C.b .nil pass0 (pn 1 pa_nil)))
    (pss_cons (ps_if (pt_cmpR op_isN (pv 2) pe_non (nomark _)) (pss_one (ps_ret (pe_tup (pa_cons (pe_un un_neg pe_int) (pa_cons pe_non pa_nil))))) pss_nil)
    (pss_cons (ps_if (pt_not (pt_val (pe_call U.G hr2 rfl U.m U.kp U.b .nil pass0 (pn 0 (pn 2 pa_nil))))) (pss_one (ps_ret (pe_tup (pa_cons (pe_un un_neg pe_int) (pa_cons pe_non pa_nil))))) pss_nil)
    (pss_one (ps_ret (pe_tup (pa_cons pe_int (pn 2 pa_nil)))))))), ?_⟩
  have two : (2 : Nat) ≤ sizeLine := by decide
  have back : ∀ n : Int, readM h t = n → n ≠ 0 → ∀ H1, Same H H1 → ∀ p, H1 p = none → Q (.ref p) (upd H1 p (.tup [.int n, .non])) := fun n e n0 H1 s1 p hp =>
    q p _ .non (s1.trans (same_new hp _)) (by rw [e]; exact upd_same) fun z => absurd (e.symm.trans z) n0
  refine ⟨_, rfl, a, _, rfl, ht, _, rfl, ?_⟩
  rw [long_iff]
  by_cases c1 : 66048 < t.length
  · rw [decide_eq_true c1]
    exact iteT ⟨_, rfl, two, fun p hp => back (-2) (if_pos c1) (by decide) H (fun _ _ z => z) p hp⟩
  rw [decide_eq_false c1]
  refine iteF ?_
  refine ⟨_, rfl, a, t, rfl, ht, by omega, fun x1 H1 s1 o1 => ?_⟩
  refine ⟨_, rfl, rfl, _, rfl, ?_⟩
  cases e1 : parse t with
  | none =>
    rw [e1] at o1
    rw [opt_none o1]
    exact iteT ⟨_, rfl, two, fun p hp => back (-6) (by unfold readM; rw [if_neg c1, e1]) (by decide) H1 s1 p hp⟩
  | some R =>
  rw [e1] at o1
  obtain ⟨p1, rfl, ch1⟩ := opt_some o1
  rw [dec_ref]
  refine iteF ?_
  have iR := parse_chart e1
  have rm : readM h t = if rugOk R h = true then 0 else -1 := by
    unfold readM
    rw [if_neg c1, e1]
  refine ⟨_, rfl, _, rfl, h, p1, R, rfl, ch1, iR, _, rfl, ?_⟩
  cases d : rugOk R h with
  | false => exact iteT ⟨_, rfl, two, fun p hp => back (-1) (by rw [rm, if_neg (by rw [d]; decide)]) (by decide) H1 s1 p hp⟩
  | true =>
  refine iteF ?_
  refine ⟨_, rfl, two, fun p hp => ?_⟩
  rw [if_pos d] at rm
  refine q p _ (.ref p1) (s1.trans (same_new hp _)) (by rw [rm]; exact upd_same) fun _ => ⟨R, p1, c1, e1, d, rfl, ch1.same (same_new hp _)⟩
theorem readM_low {h : Int} {t : List Int} : readM h t < 0 ∨ readM h t = 0 := by
  unfold readM
  by_cases c : 66048 < t.length
  · rw [if_pos c]; exact .inl (by decide)
  · rw [if_neg c]
    cases parse t with
    | none => exact .inl (show (-6 : Int) < 0 by decide)
    | some R =>
      simp only
      by_cases d : rugOk R h = true
      · rw [if_pos d]; exact .inr rfl
      · rw [if_neg d]; exact .inl (by decide)
/-! ### text_of -/
def spText : Sp := fun vs H Q _ => ∃ (a : Addr) (rs : List (List Int)), vs = [.ref a] ∧ ChartAt H a rs ∧ (flat rs).length ≤ 1000000 ∧ ∀ p H', Same H H' → H' p = some (.lst ((flat rs).map V.int)) → Q (.ref p) H'
theorem scText : FnScope ["chart", "text", "row"] ["chart"] (defScope sText) := ⟨rfl, rfl, rfl, by decide +kernel, rfl, by decide +kernel, by decide +kernel⟩
theorem flat_app (a b : List (List Int)) : flat (a ++ b) = flat a ++ flat b := by simp [flat]
theorem flat_take (rs : List (List Int)) (i : Nat) : (flat (rs.take i)).length ≤ (flat rs).length := by
  have e : flat rs = flat (rs.take i) ++ flat (rs.drop i) := by rw [← flat_app, List.take_append_drop]
  rw [e, List.length_append]
  omega
theorem ok_text {t : Tok} (F : Fun K "text_of" "text_of" sText f fd) (mE : mg "ROW_END" = some (.int 10 t)) : FnOk P w K mg base CX0 1 f fd ["chart"] spText := by
  refine F.ok scText (fun vs H Q E h => ?_) (fun cdv A outer s H vs Q E hr h => ?_)
  · obtain ⟨a, rs, rfl, _⟩ := h
    rfl
  obtain ⟨a, rs, rfl, ⟨as, hA, hR⟩, hlen, q⟩ := h
  refine ⟨_, pss_cons (ps_set (i := 1) scText.nd rfl (.inl rfl) (pe_lst pa_nil))
    (pss_cons (ps_for PassesOwn.never rfl (pi_list (pv 0)) (pg_name (i := 2) scText.nd rfl (.inl rfl))
      (pss_cons (ps_expr (pe_bm PySem.F.plainAttrs_list PySem.F.slot_list_extend PySem.F.type_list_extend mt_extend (pv 1) (pa_cons (pv 2) pa_nil)))
      (pss_one (ps_expr (pe_bm PySem.F.plainAttrs_list PySem.F.slot_list_append PySem.F.type_list_append mt_append (pv 1) (pa_cons (pe_gi rfl mE) pa_nil))))))
    (pss_one (ps_ret (pv 1)))), ?_⟩
  refine ⟨(by show 0 ≤ sizeLine; decide), fun p hp => ?_⟩
  have s0 : Same H (upd H p (.lst [])) := same_new hp _
  refine ⟨_, rfl, a, rfl, ⟨_, SqL.of (s0 _ _ hA)⟩, for_list (K := K) (a := a) (xs := as.map V.ref) (fun i σ H' => ∃ v : Option V, σ = [some (.ref a), some (.ref p), v] ∧ Same H H' ∧ H' p = some (.lst ((flat (rs.take i)).map V.int)))
    ⟨none, rfl, s0, upd_same⟩ (fun i σ H' _ ⟨_, _, e, _⟩ => SqL.of (e _ _ hA)) ?_ ?_⟩
  · rintro i y σ H' hi ⟨v, rfl, s5, h5⟩
    obtain ⟨b, hb, rfl⟩ := map_at hi
    obtain ⟨r, hr1, hr2⟩ := hR.get hb
    have tm := take_more hr1
    have fl : flat (rs.take (i + 1)) = (flat (rs.take i) ++ r) ++ [10] := by
      rw [tm, flat_app]
      simp [flat]
    have z := flat_take rs (i + 1)
    rw [fl, List.length_append, List.length_append, List.length_singleton] at z
    refine ⟨_, rfl, .inl ⟨rfl, _, SqL.of h5⟩, _, rfl, p, b, _, _, rfl, rfl, h5, s5 _ _ hr2, (by rw [List.length_map, List.length_map]; exact Nat.le_of_lt (line_small (by omega))), ?_⟩
    refine ⟨_, rfl, .inl ⟨rfl, _, SqL.of upd_same⟩, p, _, _, rfl, rfl, upd_same, (by rw [List.length_append, List.length_map, List.length_map]; exact line_small (by omega)), ?_⟩
    refine ⟨some (.ref b), rfl, same_put (same_put s5 hp _) hp _, ?_⟩
    rw [upd_same, fl, List.map_append, List.map_append]
    rfl
  · rintro σ H' ⟨v, rfl, s5, h5⟩
    refine ⟨_, rfl, q p H' s5 ?_⟩
    rw [h5, List.length_map, hR.len, List.take_length]
/-! ### told_text -/
def spTold : Sp := fun vs H Q _ => ∃ (a : Addr) (rs : List (List Int)), vs = [.ref a] ∧ ChartAt H a rs ∧ (flat rs).length ≤ 1000000 ∧ ∀ p H', Same H H' → H' p = some (.lst ((((flat rs).length : Int) :: flat rs).map V.int)) → Q (.ref p) H'
theorem scTold : FnScope ["chart", "text"] ["chart"] (defScope sTold) := ⟨rfl, rfl, rfl, by decide +kernel, rfl, by decide +kernel, by decide +kernel⟩
theorem ok_told {fT : Addr} {dT : FuncData} (F : Fun K "told_text" "told_text" sTold f fd) (ml : mg "len" = none) (T : Defs K P w mg base 1 "text_of" ["chart"] spText fT dT) : FnOk P w K mg base CX0 2 f fd ["chart"] spTold := by
  refine F.ok scTold (fun vs H Q E h => ?_) (fun cdv A outer s H vs Q E hr h => ?_)
  · obtain ⟨a, rs, rfl, _⟩ := h
    rfl
  obtain ⟨a, rs, rfl, hA, small, q⟩ := h
  refine ⟨_, pss_cons (ps_set (i := 1) scTold.nd rfl (.inl rfl) (pe_call T.G hr rfl T.m T.kp T.b .nil pass0 (pn 0 pa_nil)))
    (pss_one (ps_ret (pe_op op_cat (pe_lst (pa_cons (pe_callB call_len_seq rfl ml PySem.boot_len (pn 1 pa_nil)) pa_nil)) (pv 1)))), ?_⟩
  have one : (1 : Nat) ≤ sizeLine := by decide
  refine ⟨_, rfl, a, rs, rfl, hA, small, fun pt H5 s5 ht5 => ?_⟩
  refine ⟨_, rfl, pt, _, rfl, .inl (SqL.of ht5), one, fun pl hpl => ?_⟩
  refine ⟨_, rfl, pl, pt, _, _, rfl, rfl, upd_same, (same_new hpl _) _ _ ht5, ?_, fun p hp => ?_⟩
  · rw [List.length_map]
    show 1 + _ ≤ _
    exact Nat.le_of_lt (Nat.lt_of_le_of_lt (Nat.add_le_add_left small 1) (by rw [sizeLine_eq]; decide))
  · refine q p _ (s5.trans ((same_new hpl _).trans (same_new hp _))) ?_
    rw [upd_same, List.length_map]
    rfl
/-! ### told_if_any -/
def spTia : Sp := fun vs H Q _ => (vs = [.non] ∧ ∀ p H', Same H H' → H' p = some (.lst [.int (-5)]) → Q (.ref p) H') ∨
  ∃ (a : Addr) (rs : List (List Int)), vs = [.ref a] ∧ ChartAt H a rs ∧ (flat rs).length ≤ 1000000 ∧ ∀ p H', Same H H' → H' p = some (.lst ((wholeM rs).map V.int)) → Q (.ref p) H'
theorem scTia : FnScope ["chart"] ["chart"] (defScope sTia) := ⟨rfl, rfl, rfl, by decide +kernel, rfl, by decide +kernel, by decide +kernel⟩
theorem ok_tia {fT : Addr} {dT : FuncData} (F : Fun K "told_if_any" "told_if_any" sTia f fd) (T : Defs K P w mg base 2 "told_text" ["chart"] spTold fT dT) : FnOk P w K mg base CX0 3 f fd ["chart"] spTia := by
  refine F.ok scTia (fun vs H Q E h => ?_) (fun cdv A outer s H vs Q E hr h => ?_)
  · rcases h with ⟨rfl, _⟩ | ⟨a, rs, rfl, _⟩ <;> rfl
  have one : (1 : Nat) ≤ sizeLine := by decide
  refine ⟨_, pss_cons (ps_if (pt_cmpR op_isN (pv 0) pe_non (nomark _)) (pss_one (ps_ret (pe_lst (pa_cons (pe_un un_neg pe_int) pa_nil)))) pss_nil)
    (pss_one (ps_ret (pe_call T.G hr rfl T.m T.kp T.b .nil pass0 (pn 0 pa_nil)))), ?_⟩
  rcases h with ⟨rfl, q⟩ | ⟨a, rs, rfl, ch, small, q⟩
  · refine ⟨_, rfl, rfl, _, rfl, ?_⟩
    exact iteT ⟨_, rfl, one, fun p hp => q p _ (same_new hp _) upd_same⟩
  · refine ⟨_, rfl, rfl, _, rfl, ?_⟩
    rw [dec_ref]
    exact iteF ⟨_, rfl, a, rs, rfl, ch, small, q⟩
/-! ### seen_from_side -/
def spSeen : Sp := fun vs H Q _ => ∃ h W Hh x y : Nat, vs = [.int h, .int W, .int Hh, .int x, .int y] ∧ x < W + 2 * h ∧ y < Hh + 2 * h ∧ ∀ p H', Same H H' → H' p = some (.tup [.int ((RM.seen h W Hh x y).1 : Nat), .int ((RM.seen h W Hh x y).2 : Nat)]) → Q (.ref p) H'
theorem scSeen : FnScope ["h", "W", "H", "x", "y", "wide", "high"] ["h", "W", "H", "x", "y"] (defScope sSeen) := ⟨rfl, rfl, rfl, by decide +kernel, rfl, by decide +kernel, by decide +kernel⟩
theorem tup2 {a b c d : Int} (h1 : a = c) (h2 : b = d) : some (HO.tup [.int a, .int b]) = some (HO.tup [.int c, .int d]) := by rw [h1, h2]
theorem ok_seen (F : Fun K "seen_from_side" "seen_from_side" sSeen f fd) : FnOk P w K mg base CX0 1 f fd ["h", "W", "H", "x", "y"] spSeen := by
  refine F.ok scSeen (fun vs H Q E h => ?_) (fun cdv A outer s H vs Q E hr h => ?_)
  · obtain ⟨a, b, c, d, e, rfl, _⟩ := h
    rfl
  obtain ⟨h, W, Hh, x, y, rfl, hx, hy, q⟩ := h
  refine ⟨_, pss_cons (ps_set (i := 5) scSeen.nd rfl (.inl rfl) (pe_op op_add (pv 1) (pe_op op_mul pe_int (pv 0))))
    (pss_cons (ps_set (i := 6) scSeen.nd rfl (.inl rfl) (pe_op op_add (pv 2) (pe_op op_mul pe_int (pv 0))))
    (pss_cons (ps_if (PW.pt (pw_and (pt_cmpR op_lt (pv 3) (pe_op op_add (pv 1) (pv 0)) (nomark _)) (pw_and1 (pt_cmpR op_lt (pv 4) (pv 0) (nomark _))))) (pss_one (ps_ret (pe_tup (pa_cons (pv 3) (pa_cons (pv 4) pa_nil))))) pss_nil)
    (pss_cons (ps_if (PW.pt (pw_and (pt_cmpR op_ge (pv 3) (pe_op op_add (pv 1) (pv 0)) (nomark _)) (pw_and1 (pt_cmpR op_lt (pv 4) (pe_op op_add (pv 2) (pv 0)) (nomark _))))) (pss_one (ps_ret (pe_tup (pa_cons (pv 4) (pa_cons (pe_op op_sub (pe_op op_sub (pv 5) pe_int) (pv 3)) pa_nil))))) pss_nil)
    (pss_cons (ps_if (PW.pt (pw_and (pt_cmpR op_ge (pv 3) (pv 0) (nomark _)) (pw_and1 (pt_cmpR op_ge (pv 4) (pe_op op_add (pv 2) (pv 0)) (nomark _))))) (pss_one (ps_ret (pe_tup (pa_cons (pe_op op_sub (pe_op op_sub (pv 5) pe_int) (pv 3)) (pa_cons (pe_op op_sub (pe_op op_sub (pv 6) pe_int) (pv 4)) pa_nil))))) pss_nil)
    (pss_one (ps_ret (pe_tup (pa_cons (pe_op op_sub (pe_op op_sub (pv 6) pe_int) (pv 4)) (pa_cons (pv 3) pa_nil))))))))), ?_⟩
  refine ⟨_, rfl, _, rfl, _, _, rfl, rfl, .inl ⟨by decide, by decide⟩, _, _, rfl, rfl, ?_⟩
  refine ⟨_, rfl, _, rfl, _, _, rfl, rfl, .inl ⟨by decide, by decide⟩, _, _, rfl, rfl, ?_⟩
  have two : (2 : Nat) ≤ sizeLine := by decide
  have fin : ∀ {a b : Int}, a = ((RM.seen h W Hh x y).1 : Nat) → b = ((RM.seen h W Hh x y).2 : Nat) → ∀ p, H p = none → Q (.ref p) (upd H p (.tup [.int a, .int b])) := fun e1 e2 p hp =>
    q p _ (same_new hp _) (by rw [upd_same]; exact tup2 e1 e2)
  -- ahead of the third return: not the first two
  have last : ∀ e : ¬ (x < W + h ∧ y < h), ¬ (W + h ≤ x ∧ y < Hh + h) → ¬ (h ≤ x ∧ Hh + h ≤ y) → RM.seen h W Hh x y = (Hh + 2 * h - 1 - y, x) := fun e1 e2 e3 => by
    unfold RM.seen
    rw [if_neg e1, if_neg e2, if_neg e3]
  refine ⟨_, rfl, _, rfl, _, rfl, _, _, rfl, rfl, _, _, rfl, rfl, _, rfl, ?_⟩
  have ret4 : ∀ e : ¬ (x < W + h ∧ y < h), ¬ (W + h ≤ x ∧ y < Hh + h) → ¬ (h ≤ x ∧ Hh + h ≤ y) → ∀ p, H p = none → Q (.ref p) (upd H p (.tup [.int ((((Hh : Nat) : Int) + 2 * ((h : Nat) : Int)) - 1 - ((y : Nat) : Int)), .int ((x : Nat) : Int)])) := fun e1 e2 e3 => by
    have z := last e1 e2 e3
    exact fin (by rw [z]; show _ = ((Hh + 2 * h - 1 - y : Nat) : Int); omega) (by rw [z])
  by_cases c1 : x < W + h ∧ y < h
  · rw [decide_eq_true (show ((x : Nat) : Int) < ((W : Nat) : Int) + ((h : Nat) : Int) by omega)]
    refine iteT ?_
    refine ⟨_, rfl, _, rfl, _, _, rfl, rfl, _, rfl, ?_⟩
    rw [decide_eq_true (show ((y : Nat) : Int) < ((h : Nat) : Int) by omega)]
    refine iteT ?_
    have z : RM.seen h W Hh x y = (x, y) := if_pos c1
    exact ⟨_, rfl, _, rfl, two, fin (by rw [z]) (by rw [z])⟩
  · have step2 : ∀ T : TS, ∀ D : Ends, True := fun _ _ => trivial
    by_cases d1 : x < W + h
    · rw [decide_eq_true (show ((x : Nat) : Int) < ((W : Nat) : Int) + ((h : Nat) : Int) by omega)]
      refine iteT ?_
      refine ⟨_, rfl, _, rfl, _, _, rfl, rfl, _, rfl, ?_⟩
      rw [decide_eq_false (show ¬ ((y : Nat) : Int) < ((h : Nat) : Int) by omega)]
      refine iteF ?_
      refine ⟨_, rfl, _, rfl, _, rfl, _, _, rfl, rfl, _, _, rfl, rfl, _, rfl, ?_⟩
      rw [decide_eq_false (show ¬ ((W : Nat) : Int) + ((h : Nat) : Int) ≤ ((x : Nat) : Int) by omega)]
      refine iteF (iteF ?_)
      refine ⟨_, rfl, _, rfl, _, _, rfl, rfl, _, rfl, ?_⟩
      by_cases d3 : h ≤ x
      · rw [decide_eq_true (show ((h : Nat) : Int) ≤ ((x : Nat) : Int) by omega)]
        refine iteT ?_
        refine ⟨_, rfl, _, rfl, _, rfl, _, _, rfl, rfl, _, _, rfl, rfl, _, rfl, ?_⟩
        by_cases d4 : Hh + h ≤ y
        · rw [decide_eq_true (show ((Hh : Nat) : Int) + ((h : Nat) : Int) ≤ ((y : Nat) : Int) by omega)]
          refine iteT ?_
          have z : RM.seen h W Hh x y = (W + 2 * h - 1 - x, Hh + 2 * h - 1 - y) := (if_neg c1).trans ((if_neg (by omega)).trans (if_pos ⟨d3, d4⟩))
          exact ⟨_, rfl, _, _, rfl, rfl, _, rfl, _, _, rfl, rfl, _, rfl, _, _, rfl, rfl, _, rfl, _, _, rfl, rfl, two, fin (by rw [z]; show _ = ((W + 2 * h - 1 - x : Nat) : Int); omega) (by rw [z]; show _ = ((Hh + 2 * h - 1 - y : Nat) : Int); omega)⟩
        · rw [decide_eq_false (show ¬ ((Hh : Nat) : Int) + ((h : Nat) : Int) ≤ ((y : Nat) : Int) by omega)]
          refine iteF ?_
          exact ⟨_, rfl, _, _, rfl, rfl, _, rfl, _, _, rfl, rfl, _, rfl, two, ret4 c1 (by omega) (by omega)⟩
      · rw [decide_eq_false (show ¬ ((h : Nat) : Int) ≤ ((x : Nat) : Int) by omega)]
        refine iteF (iteF ?_)
        exact ⟨_, rfl, _, _, rfl, rfl, _, rfl, _, _, rfl, rfl, _, rfl, two, ret4 c1 (by omega) (by omega)⟩
    · rw [decide_eq_false (show ¬ ((x : Nat) : Int) < ((W : Nat) : Int) + ((h : Nat) : Int) by omega)]
      refine iteF (iteF ?_)
      refine ⟨_, rfl, _, rfl, _, rfl, _, _, rfl, rfl, _, _, rfl, rfl, _, rfl, ?_⟩
      rw [decide_eq_true (show ((W : Nat) : Int) + ((h : Nat) : Int) ≤ ((x : Nat) : Int) by omega)]
      refine iteT ?_
      refine ⟨_, rfl, _, rfl, _, rfl, _, _, rfl, rfl, _, _, rfl, rfl, _, rfl, ?_⟩
      by_cases d2 : y < Hh + h
      · rw [decide_eq_true (show ((y : Nat) : Int) < ((Hh : Nat) : Int) + ((h : Nat) : Int) by omega)]
        refine iteT ?_
        have z : RM.seen h W Hh x y = (y, W + 2 * h - 1 - x) := (if_neg c1).trans (if_pos (by omega))
        exact ⟨_, rfl, _, rfl, _, _, rfl, rfl, _, rfl, _, _, rfl, rfl, two, fin (by rw [z]) (by rw [z]; show _ = ((W + 2 * h - 1 - x : Nat) : Int); omega)⟩
      · rw [decide_eq_false (show ¬ ((y : Nat) : Int) < ((Hh : Nat) : Int) + ((h : Nat) : Int) by omega)]
        refine iteF ?_
        refine ⟨_, rfl, _, rfl, _, _, rfl, rfl, _, rfl, ?_⟩
        rw [decide_eq_true (show ((h : Nat) : Int) ≤ ((x : Nat) : Int) by omega)]
        refine iteT ?_
        refine ⟨_, rfl, _, rfl, _, rfl, _, _, rfl, rfl, _, _, rfl, rfl, _, rfl, ?_⟩
        rw [decide_eq_true (show ((Hh : Nat) : Int) + ((h : Nat) : Int) ≤ ((y : Nat) : Int) by omega)]
        refine iteT ?_
        have z : RM.seen h W Hh x y = (W + 2 * h - 1 - x, Hh + 2 * h - 1 - y) := (if_neg c1).trans ((if_neg (by omega)).trans (if_pos (by omega)))
        exact ⟨_, rfl, _, _, rfl, rfl, _, rfl, _, _, rfl, rfl, _, rfl, _, _, rfl, rfl, _, rfl, _, _, rfl, rfl, two, fin (by rw [z]; show _ = ((W + 2 * h - 1 - x : Nat) : Int); omega) (by rw [z]; show _ = ((Hh + 2 * h - 1 - y : Nat) : Int); omega)⟩
/-- h <= x < W + h and h <= y < H + h, of whole numbers in the slots 2 to 6 -/
def tInField : TT := fun σ H Q => ∃ h W Hh x y : Nat, σ[2]? = some (some (.int h)) ∧ σ[3]? = some (some (.int W)) ∧ σ[4]? = some (some (.int Hh)) ∧ σ[5]? = some (some (.int x)) ∧ σ[6]? = some (some (.int y)) ∧ Q (decide (h ≤ x ∧ x < W + h ∧ h ≤ y ∧ y < Hh + h)) H
def tv (q : Nat × Nat × Nat) : List V := [.int (q.1 : Nat), .int (q.2.1 : Nat), .int (q.2.2 : Nat)]
theorem tup3 {a b c : Int} {q : Nat × Nat × Nat} (h1 : a = (q.1 : Nat)) (h2 : b = (q.2.1 : Nat)) (h3 : c = (q.2.2 : Nat)) : some (HO.tup [.int a, .int b, .int c]) = some (HO.tup (tv q)) := by rw [h1, h2, h3] <;> rfl
def spKnot : Sp := fun vs H Q _ => ∃ (kind : Int) (L h W Hh x y : Nat), vs = [.int kind, .int L, .int h, .int W, .int Hh, .int x, .int y] ∧ 1 ≤ L ∧ x < W + 2 * h ∧ y < Hh + 2 * h ∧ 0 ≤ kind ∧ kind ≤ 2 ∧
  ∀ p H', Same H H' → H' p = some (.tup (tv (knot (kk kind) L h W Hh x y))) → Q (.ref p) H'
theorem scKnot : FnScope ["kind", "L", "h", "W", "H", "x", "y", "u", "v", "seen", "along", "inward"] ["kind", "L", "h", "W", "H", "x", "y"] (defScope sKnot) := ⟨rfl, rfl, rfl, by decide +kernel, rfl, by decide +kernel, by decide +kernel⟩
theorem castmod {a : Int} {n L : Nat} (e : a = (n : Nat)) : a % ((L : Nat) : Int) = ((n % L : Nat) : Int) := by
  rw [e, Int.natCast_emod]
theorem ok_knot {t0 t1 t2 t3 t4 : Tok} {fS : Addr} {dS : FuncData} (F : Fun K "knot_of" "knot_of" sKnot f fd) (S : Defs K P w mg base 1 "seen_from_side" ["h", "W", "H", "x", "y"] spSeen fS dS)
    (mF : mg "OF_FIELD" = some (.int 0 t0)) (mT : mg "OF_STRIP" = some (.int 1 t1)) (mC : mg "OF_CORNER" = some (.int 2 t2)) (mM : mg "MET" = some (.int 1 t3)) (mR : mg "RUN" = some (.int 2 t4)) (mmin : mg "min" = none) (mmax : mg "max" = none) :
    FnOk P w K mg base CX0 2 f fd ["kind", "L", "h", "W", "H", "x", "y"] spKnot := by
  refine F.ok scKnot (fun vs H Q E h => ?_) (fun cdv A outer s H vs Q E hr h => ?_)
  · obtain ⟨a, b, c, d, e, i, j, rfl, _⟩ := h
    rfl
  obtain ⟨kind, L, h, W, Hh, x, y, rfl, hL, hx, hy, hk0, hk2, q⟩ := h
  refine ⟨_, pss_cons (ps_if (PT.weak (t' := tInField) (PW.pt (pw_and (pt_chain op_le op_lt (pv 2) (pv 5) (pe_op op_add (pv 3) (pv 2))) (pw_and1 (pt_chain op_le op_lt (pv 2) (pv 6) (pe_op op_add (pv 4) (pv 2)))))) (fun σ H Q hq => by
      obtain ⟨h, W, Hh, x, y, e2, e3, e4, e5, e6, q⟩ := hq
      refine ⟨_, e2, _, e5, _, _, rfl, rfl, _, rfl, ?_⟩
      by_cases c1 : h ≤ x
      · rw [decide_eq_true (show ((h : Nat) : Int) ≤ ((x : Nat) : Int) by omega)]
        refine iteT ?_
        refine ⟨_, e3, _, e2, _, _, rfl, rfl, _, _, rfl, rfl, _, rfl, ?_⟩
        by_cases c2 : x < W + h
        · rw [decide_eq_true (show ((x : Nat) : Int) < ((W : Nat) : Int) + ((h : Nat) : Int) by omega)]
          refine iteT ?_
          refine ⟨_, e2, _, e6, _, _, rfl, rfl, _, rfl, ?_⟩
          by_cases c3 : h ≤ y
          · rw [decide_eq_true (show ((h : Nat) : Int) ≤ ((y : Nat) : Int) by omega)]
            refine iteT ?_
            refine ⟨_, e4, _, e2, _, _, rfl, rfl, _, _, rfl, rfl, _, rfl, ?_⟩
            by_cases c4 : y < Hh + h
            · rw [decide_eq_true (show ((y : Nat) : Int) < ((Hh : Nat) : Int) + ((h : Nat) : Int) by omega)]
              rw [decide_eq_true (show h ≤ x ∧ x < W + h ∧ h ≤ y ∧ y < Hh + h from ⟨c1, c2, c3, c4⟩)] at q
              exact q
            · rw [decide_eq_false (show ¬ ((y : Nat) : Int) < ((Hh : Nat) : Int) + ((h : Nat) : Int) by omega)]
              rw [decide_eq_false (show ¬ (h ≤ x ∧ x < W + h ∧ h ≤ y ∧ y < Hh + h) by omega)] at q
              exact q
          · rw [decide_eq_false (show ¬ ((h : Nat) : Int) ≤ ((y : Nat) : Int) by omega)]
            rw [decide_eq_false (show ¬ (h ≤ x ∧ x < W + h ∧ h ≤ y ∧ y < Hh + h) by omega)] at q
            exact iteF ⟨_, rfl, q⟩
        · rw [decide_eq_false (show ¬ ((x : Nat) : Int) < ((W : Nat) : Int) + ((h : Nat) : Int) by omega)]
          rw [decide_eq_false (show ¬ (h ≤ x ∧ x < W + h ∧ h ≤ y ∧ y < Hh + h) by omega)] at q
          exact iteF q
      · rw [decide_eq_false (show ¬ ((h : Nat) : Int) ≤ ((x : Nat) : Int) by omega)]
        rw [decide_eq_false (show ¬ (h ≤ x ∧ x < W + h ∧ h ≤ y ∧ y < Hh + h) by omega)] at q
        exact iteF ⟨_, rfl, iteF q⟩))
      (pss_one (ps_ret (pe_tup (pa_cons (pe_gi rfl mF) (pa_cons (pe_op op_sub (pv 5) (pv 2)) (pa_cons (pe_op op_sub (pv 6) (pv 2)) pa_nil)))))) pss_nil)
    (pss_cons (ps_if (pt_cmpR op_eq (pv 0) (pe_gi rfl mM) (nomark _))
      (pss_cons (ps_set (i := 7) scKnot.nd rfl (.inl rfl) (pe_callB (call_min2 rfl) rfl mmin (by decide +kernel) (pa_cons (pv 5) (pa_cons (pe_op op_sub (pe_op op_sub (pe_op op_add (pv 3) (pe_op op_mul pe_int (pv 2))) pe_int) (pv 5)) pa_nil))))
      (pss_cons (ps_set (i := 8) scKnot.nd rfl (.inl rfl) (pe_callB (call_min2 rfl) rfl mmin (by decide +kernel) (pa_cons (pv 6) (pa_cons (pe_op op_sub (pe_op op_sub (pe_op op_add (pv 4) (pe_op op_mul pe_int (pv 2))) pe_int) (pv 6)) pa_nil))))
      (pss_one (ps_ret (pe_tup (pa_cons (pe_gi rfl mT) (pa_cons (pe_op op_mod (pe_callB (call_max2 rfl) rfl mmax (by decide +kernel) (pn 7 (pn 8 pa_nil))) (pv 1)) (pa_cons (pe_callB (call_min2 rfl) rfl mmin (by decide +kernel) (pn 7 (pn 8 pa_nil))) pa_nil))))))))
      pss_nil)
    (pss_cons (ps_set (i := 9) scKnot.nd rfl (.inl rfl) (pe_call S.G hr rfl S.m S.kp S.b .nil pass0 (pn 2 (pn 3 (pn 4 (pn 5 (pn 6 pa_nil)))))))
    (pss_cons (ps_set (i := 10) scKnot.nd rfl (.inl rfl) (pe_ix ix_tup (pv 9) pe_int (fun _ _ => rfl)))
    (pss_cons (ps_set (i := 11) scKnot.nd rfl (.inl rfl) (pe_ix ix_tup (pv 9) pe_int (fun _ _ => rfl)))
    (pss_cons (ps_if (pt_cmpR op_eq (pv 0) (pe_gi rfl mR) (nomark _)) (pss_one (ps_ret (pe_tup (pa_cons (pe_gi rfl mT) (pa_cons (pe_op op_mod (pv 10) (pv 1)) (pn 11 pa_nil)))))) pss_nil)
    (pss_cons (ps_if (pt_cmpR op_lt (pv 10) (pv 2) (nomark _)) (pss_one (ps_ret (pe_tup (pa_cons (pe_gi rfl mC) (pn 10 (pn 11 pa_nil)))))) pss_nil)
    (pss_one (ps_ret (pe_tup (pa_cons (pe_gi rfl mT) (pa_cons (pe_op op_mod (pe_op op_sub (pv 10) (pv 2)) (pv 1)) (pn 11 pa_nil)))))))))))), ?_⟩
  have three : (3 : Nat) ≤ sizeLine := by decide
  have fin : ∀ {a b c : Int} {z : Nat × Nat × Nat} (H1 : Hp), Same H H1 → knot (kk kind) L h W Hh x y = z → a = (z.1 : Nat) → b = (z.2.1 : Nat) → c = (z.2.2 : Nat) → ∀ p, H1 p = none → Q (.ref p) (upd H1 p (.tup [.int a, .int b, .int c])) := fun H1 s1 ez e1 e2 e3 p hp =>
    q p _ (s1.trans (same_new hp _)) (by rw [upd_same, ez]; exact tup3 e1 e2 e3)
  -- the knot lies in the field, or goes on
  have field : h ≤ x ∧ x < W + h ∧ h ≤ y ∧ y < Hh + h → knot (kk kind) L h W Hh x y = (0, x - h, y - h) := fun c => if_pos c
  refine ⟨h, W, Hh, x, y, rfl, rfl, rfl, rfl, rfl, ?_⟩
  by_cases c : h ≤ x ∧ x < W + h ∧ h ≤ y ∧ y < Hh + h
  · rw [decide_eq_true c]
    refine iteT ?_
    refine ⟨_, rfl, _, rfl, _, _, rfl, rfl, _, rfl, _, rfl, _, _, rfl, rfl, three, ?_⟩
    exact fin H (Same.refl H) (field c) rfl (by show _ = ((x - h : Nat) : Int); omega) (by show _ = ((y - h : Nat) : Int); omega)
  rw [decide_eq_false c]
  refine iteF ?_
  have kn : knot (kk kind) L h W Hh x y = (match kk kind with
    | .met => (1, max (min x (W + 2 * h - 1 - x)) (min y (Hh + 2 * h - 1 - y)) % L, min (min x (W + 2 * h - 1 - x)) (min y (Hh + 2 * h - 1 - y)))
    | .run => (1, (RM.seen h W Hh x y).1 % L, (RM.seen h W Hh x y).2)
    | .set => if (RM.seen h W Hh x y).1 < h then (2, (RM.seen h W Hh x y).1, (RM.seen h W Hh x y).2) else (1, ((RM.seen h W Hh x y).1 - h) % L, (RM.seen h W Hh x y).2)) := if_neg c
  refine ⟨_, rfl, rfl, _, rfl, ?_⟩
  rw [dvi]
  by_cases k1 : kind = 1
  · rw [decide_eq_true k1]
    refine iteT ?_
    have ek : kk kind = .met := by rw [k1]; rfl
    have kz : knot (kk kind) L h W Hh x y = (1, max (min x (W + 2 * h - 1 - x)) (min y (Hh + 2 * h - 1 - y)) % L, min (min x (W + 2 * h - 1 - x)) (min y (Hh + 2 * h - 1 - y))) := by rw [kn, ek]
    refine ⟨_, rfl, _, rfl, _, rfl, _, _, rfl, rfl, .inl ⟨by decide, by decide⟩, _, _, rfl, rfl, _, _, rfl, rfl, _, rfl, _, _, rfl, rfl, _, _, rfl, ?_⟩
    refine ⟨_, rfl, _, rfl, _, rfl, _, _, rfl, rfl, .inl ⟨by decide, by decide⟩, _, _, rfl, rfl, _, _, rfl, rfl, _, rfl, _, _, rfl, rfl, _, _, rfl, ?_⟩
    refine ⟨_, rfl, _, rfl, _, _, rfl, _, rfl, _, _, rfl, rfl, (by show (0 : Int) < (L : Nat); omega), _, rfl, _, rfl, _, _, rfl, three, ?_⟩
    refine fin H (Same.refl H) kz rfl (castmod ?_) ?_
    · show (_ : Int) = ((max (min x (W + 2 * h - 1 - x)) (min y (Hh + 2 * h - 1 - y)) : Nat) : Int)
      omega
    · show (_ : Int) = ((min (min x (W + 2 * h - 1 - x)) (min y (Hh + 2 * h - 1 - y)) : Nat) : Int)
      omega
  · rw [decide_eq_false k1]
    refine iteF ?_
    refine ⟨_, rfl, _, rfl, _, rfl, _, rfl, _, rfl, h, W, Hh, x, y, rfl, hx, hy, fun ps H1 s1 hps => ?_⟩
    refine ⟨_, rfl, ps, _, _, _, rfl, rfl, SqT.of hps, at_zero _ _, ?_⟩
    refine ⟨_, rfl, ps, _, _, _, rfl, rfl, SqT.of hps, at_one _ _ _, ?_⟩
    refine ⟨_, rfl, rfl, _, rfl, ?_⟩
    rw [dvi]
    by_cases k2 : kind = 2
    · rw [decide_eq_true k2]
      refine iteT ?_
      have ek : kk kind = .run := by rw [k2]; rfl
      have kz : knot (kk kind) L h W Hh x y = (1, (RM.seen h W Hh x y).1 % L, (RM.seen h W Hh x y).2) := by rw [kn, ek]
      refine ⟨_, rfl, _, rfl, _, _, rfl, rfl, (by show (0 : Int) < (L : Nat); omega), _, rfl, three, ?_⟩
      exact fin H1 s1 kz rfl (castmod rfl) rfl
    · rw [decide_eq_false k2]
      refine iteF ?_
      have k0 : kind = 0 := by omega
      have ek : kk kind = .set := by rw [k0]; rfl
      have kz : knot (kk kind) L h W Hh x y = (if (RM.seen h W Hh x y).1 < h then (2, (RM.seen h W Hh x y).1, (RM.seen h W Hh x y).2) else (1, ((RM.seen h W Hh x y).1 - h) % L, (RM.seen h W Hh x y).2)) := by rw [kn, ek]
      refine ⟨_, rfl, _, rfl, _, _, rfl, rfl, _, rfl, ?_⟩
      by_cases d : (RM.seen h W Hh x y).1 < h
      · rw [decide_eq_true (show (((RM.seen h W Hh x y).1 : Nat) : Int) < ((h : Nat) : Int) by omega)]
        refine iteT ?_
        refine ⟨_, rfl, _, rfl, three, ?_⟩
        exact fin H1 s1 (kz.trans (if_pos d)) rfl rfl rfl
      · rw [decide_eq_false (show ¬ (((RM.seen h W Hh x y).1 : Nat) : Int) < ((h : Nat) : Int) by omega)]
        refine iteF ?_
        refine ⟨_, rfl, _, rfl, _, _, rfl, rfl, _, rfl, _, _, rfl, rfl, (by show (0 : Int) < (L : Nat); omega), _, rfl, three, ?_⟩
        refine fin H1 s1 (kz.trans (if_neg d)) rfl (castmod ?_) rfl
        omega
/-! ### a table that is made and written to, row by row: H0 is the heap ahead of it -/
structure TabAt (H0 H : Hp) (p : Addr) (as : List Addr) (rs : List (List V)) : Prop where
  top : H p = some (.lst (as.map V.ref))
  len : as.length = rs.length
  row : ∀ (j : Nat) (a : Addr) (r : List V), as[j]? = some a → rs[j]? = some r → H a = some (.lst r)
  new : ∀ a ∈ as, H0 a = none
  newp : H0 p = none
  out : p ∉ as
  once : as.Nodup
theorem TabAt.same {H0 H H' : Hp} {p : Addr} {as : List Addr} {rs : List (List V)} (T : TabAt H0 H p as rs) (s : Same H H') : TabAt H0 H' p as rs :=
  ⟨s _ _ T.top, T.len, fun j a r h1 h2 => s _ _ (T.row j a r h1 h2), T.new, T.newp, T.out, T.once⟩
/-- another, older object is changed -/
theorem TabAt.other {H0 H : Hp} {p q : Addr} {as : List Addr} {rs : List (List V)} (T : TabAt H0 H p as rs) (o : HO) (h1 : q ≠ p) (h2 : q ∉ as) : TabAt H0 (upd H q o) p as rs :=
  ⟨by rw [upd_ne (Ne.symm h1)]; exact T.top, T.len, fun j a r e1 e2 => by
    have m := List.mem_of_getElem? e1
    rw [upd_ne (fun z : a = q => h2 (by rw [← z]; exact m))]
    exact T.row j a r e1 e2, T.new, T.newp, T.out, T.once⟩
theorem once_at {α : Type} : ∀ {l : List α} {i j : Nat} {a : α}, l.Nodup → l[i]? = some a → l[j]? = some a → i = j
  | [], i, j, a, _, h, _ => by simp at h
  | x :: l, 0, 0, a, _, _, _ => rfl
  | x :: l, 0, j + 1, a, n, h1, h2 => by
    have z : x = a := Option.some.inj h1
    have m := List.mem_of_getElem? (l := l) (i := j) h2
    exact absurd (z ▸ m) (List.nodup_cons.mp n).1
  | x :: l, i + 1, 0, a, n, h1, h2 => by
    have z : x = a := Option.some.inj h2
    have m := List.mem_of_getElem? (l := l) (i := i) h1
    exact absurd (z ▸ m) (List.nodup_cons.mp n).1
  | x :: l, i + 1, j + 1, a, n, h1, h2 => congrArg (· + 1) (once_at (l := l) (i := i) (j := j) (List.nodup_cons.mp n).2 h1 h2)
theorem TabAt.empty {H0 H : Hp} {p : Addr} (s : H0 p = none) : TabAt H0 (upd H p (.lst [])) p [] [] :=
  ⟨upd_same, rfl, fun j a r h => by simp at h, fun a h => by simp at h, s, by simp, by simp⟩
/-- a new row joins: the row stands, p's list gets it -/
theorem TabAt.push {H0 H : Hp} {p a : Addr} {as : List Addr} {rs : List (List V)} {r : List V} (T : TabAt H0 H p as rs) (h : H a = some (.lst r)) (n : H0 a = none) (ne : a ≠ p) (na : a ∉ as) : TabAt H0 (upd H p (.lst (as.map V.ref ++ [V.ref a]))) p (as ++ [a]) (rs ++ [r]) := by
  refine ⟨by rw [upd_same, List.map_append]; rfl, by rw [List.length_append, List.length_append, T.len]; rfl, fun j b q e1 e2 => ?_, fun b hb => ?_, T.newp, fun z => ?_, ?_⟩
  · have l := T.len
    have bp : b ≠ p := by
      intro z
      subst z
      rcases List.mem_append.mp (List.mem_of_getElem? e1) with z | z
      · exact T.out z
      · exact ne (List.mem_singleton.mp z).symm
    rw [upd_ne bp]
    by_cases c : j < as.length
    · rw [List.getElem?_append_left c] at e1
      rw [List.getElem?_append_left (by omega)] at e2
      exact T.row j b q e1 e2
    · have hj := (List.getElem?_eq_some_iff.mp e1).1
      rw [List.length_append, List.length_singleton] at hj
      have ej : j = as.length := by omega
      subst ej
      rw [List.getElem?_concat_length] at e1
      rw [l, List.getElem?_concat_length] at e2
      cases e1
      cases e2
      exact h
  · rcases List.mem_append.mp hb with z | z
    · exact T.new b z
    · rw [List.mem_singleton.mp z]
      exact n
  · rcases List.mem_append.mp z with z | z
    · exact T.out z
    · exact ne (List.mem_singleton.mp z).symm
  · rw [List.nodup_append]
    refine ⟨T.once, by simp, fun x hx y hy z => ?_⟩
    rw [List.mem_singleton.mp hy] at z
    exact na (z ▸ hx)
/-- one row is changed -/
theorem TabAt.put {H0 H : Hp} {p a : Addr} {as : List Addr} {rs : List (List V)} {j : Nat} {r : List V} (T : TabAt H0 H p as rs) (e : as[j]? = some a) (hj : j < rs.length) : TabAt H0 (upd H a (.lst r)) p as (rs.set j r) := by
  have ha := List.mem_of_getElem? e
  have pa : p ≠ a := fun z => T.out (z ▸ ha)
  refine ⟨by rw [upd_ne pa]; exact T.top, by rw [List.length_set]; exact T.len, fun i b q e1 e2 => ?_, T.new, T.newp, T.out, T.once⟩
  by_cases c : i = j
  · subst c
    rw [e] at e1
    cases e1
    rw [List.getElem?_set_self hj] at e2
    cases e2
    exact upd_same
  · rw [List.getElem?_set_ne (Ne.symm c)] at e2
    have ba : b ≠ a := by
      intro z
      subst z
      exact c (once_at T.once e1 e)
    rw [upd_ne ba]
    exact T.row i b q e1 e2
theorem TabAt.keeps {H0 H : Hp} {p a : Addr} {as : List Addr} {rs : List (List V)} (T : TabAt H0 H p as rs) (s : Same H0 H) (ha : a ∈ as) (o : HO) : Same H0 (upd H a o) := same_put s (T.new a ha) o
theorem TabAt.rows {H0 H : Hp} : ∀ {as : List Addr} {rs : List (List Int)}, as.length = rs.length → (∀ (j : Nat) (a : Addr) (r : List V), as[j]? = some a → (rs.map (·.map V.int))[j]? = some r → H a = some (.lst r)) → RowsAt H as rs
  | [], [], _, _ => .nil
  | a :: as, r :: rs, l, h => .cons (h 0 a _ rfl rfl) (TabAt.rows (H0 := H0) (by simpa using l) fun j b q e1 e2 => h (j + 1) b q e1 e2)
theorem TabAt.chart {H0 H : Hp} {p : Addr} {as : List Addr} {rs : List (List Int)} (T : TabAt H0 H p as (rs.map (·.map V.int))) : ChartAt H p rs :=
  ⟨as, T.top, TabAt.rows (H0 := H0) (by have := T.len; rw [List.length_map] at this; exact this) T.row⟩
/-! ### tables of colours, some of them not known -/
def ovV : Option Int → V
  | none => .non
  | some c => .int c
def tabV (U : List (List (Option Int))) : List (List V) := U.map fun r => r.map ovV
def TblAt (H : Hp) (p : Addr) (rs : List (List V)) : Prop := ∃ as : List Addr, H p = some (.lst (as.map V.ref)) ∧ as.length = rs.length ∧ ∀ (j : Nat) (a : Addr) (r : List V), as[j]? = some a → rs[j]? = some r → H a = some (.lst r)
theorem TabAt.tbl {H0 H : Hp} {p : Addr} {as : List Addr} {rs : List (List V)} (T : TabAt H0 H p as rs) : TblAt H p rs := ⟨as, T.top, T.len, T.row⟩
theorem TblAt.same {H H' : Hp} {p : Addr} {rs : List (List V)} (T : TblAt H p rs) (s : Same H H') : TblAt H' p rs := by
  obtain ⟨as, e, l, h⟩ := T
  exact ⟨as, s _ _ e, l, fun j a r h1 h2 => s _ _ (h j a r h1 h2)⟩
theorem TblAt.chart {H : Hp} {p : Addr} {R : List (List Int)} (T : TblAt H p (tabV (R.map fun r => r.map some))) : ChartAt H p R := by
  obtain ⟨as, e, l, h⟩ := T
  have z : tabV (R.map fun r => r.map some) = R.map fun r => r.map V.int := by
    unfold tabV
    rw [List.map_map]
    refine List.map_congr_left fun r _ => ?_
    show (r.map some).map ovV = _
    rw [List.map_map]
    rfl
  rw [z] at l h
  exact ⟨as, e, TabAt.rows (H0 := H) (by rw [List.length_map] at l; exact l) h⟩
/-- what is new to the heap is none of the table -/
theorem TabAt.apart {H0 H : Hp} {p q : Addr} {as : List Addr} {rs : List (List V)} (T : TabAt H0 H p as rs) (h : H q = none) : q ≠ p ∧ q ∉ as := by
  refine ⟨fun z => (by rw [z, T.top] at h; cases h), fun z => ?_⟩
  obtain ⟨j, hj⟩ := List.getElem?_of_mem z
  have hl := (List.getElem?_eq_some_iff.mp hj).1
  have e := T.row j q _ hj (List.getElem?_eq_getElem (show j < rs.length by rw [← T.len]; exact hl))
  rw [h] at e
  cases e
theorem ix_nat {n j : Nat} (h : j < n) : ixN n ((j : Nat) : Int) = some j := by
  unfold ixN
  rw [if_pos (by omega), if_pos (by omega), Int.toNat_natCast]
theorem rep_one {α : Type} (n : Nat) (x : α) : (List.replicate n [x]).flatten = List.replicate n x := by
  induction n with
  | zero => rfl
  | succ n ih => rw [List.replicate_succ, List.replicate_succ, List.flatten_cons, ih] <;> rfl
theorem blank_row (n : Nat) : (List.replicate n (none : Option Int)).map ovV = List.replicate n V.non := by rw [List.map_replicate] <;> rfl
theorem tab_blank (w h : Nat) : tabV (blank w h) = List.replicate h (List.replicate w V.non) := by
  unfold tabV blank
  rw [List.map_replicate, blank_row]
/-! ### takes_colour -/
def spTake : Sp := fun vs H Q _ => ∃ (a : Addr) (r : List (Option Int)) (x : Nat) (c : Int) (v : Option Int), vs = [.ref a, .int x, .int c] ∧ H a = some (.lst (r.map ovV)) ∧ r[x]? = some v ∧
  (v = none → Q (.bl true) (upd H a (.lst ((r.set x (some c)).map ovV)))) ∧ ∀ d, v = some d → Q (.bl (decide (d = c))) H
theorem scTake : FnScope ["row", "x", "colour"] ["row", "x", "colour"] (defScope sTake) := ⟨rfl, rfl, rfl, by decide +kernel, rfl, by decide +kernel, by decide +kernel⟩
theorem ok_take (F : Fun K "takes_colour" "takes_colour" sTake f fd) : FnOk P w K mg base CX0 1 f fd ["row", "x", "colour"] spTake := by
  refine F.ok scTake (fun vs H Q E h => ?_) (fun cdv A outer s H vs Q E hr h => ?_)
  · obtain ⟨a, r, x, c, v, rfl, _⟩ := h
    rfl
  obtain ⟨a, r, x, c, v, rfl, hA, hx, q1, q2⟩ := h
  refine ⟨_, pss_cons (ps_if (pt_cmpR op_isN (pe_ix ix_list (pv 0) (pv 1) (fun _ _ => rfl)) pe_non (nomark _)) (pss_one (ps_asg (pv 2) (pg_sub (pv 0) (pv 1) set_list))) pss_nil)
    (pss_one (ps_ret (pe_cmpR op_eq (pe_ix ix_list (pv 0) (pv 1) (fun _ _ => rfl)) (pv 2) (nomark _)))), ?_⟩
  have hl := (List.getElem?_eq_some_iff.mp hx).1
  have ht : atI (r.map ovV) ((x : Nat) : Int) = some (ovV v) := atI_nat (by rw [List.getElem?_map, hx]; rfl)
  refine ⟨_, rfl, _, rfl, a, _, _, _, rfl, rfl, SqL.of hA, ht, rfl, _, rfl, ?_⟩
  cases v with
  | none =>
    refine iteT ?_
    refine ⟨_, rfl, _, rfl, _, rfl, a, _, _, x, rfl, rfl, hA, ix_nat (by rw [List.length_map]; exact hl), ?_⟩
    have e : (r.map ovV).set x (V.int c) = (r.set x (some c)).map ovV := by rw [List.map_set] <;> rfl
    rw [e]
    refine ⟨_, rfl, _, rfl, a, _, _, _, rfl, rfl, SqL.of upd_same, atI_nat (by rw [List.getElem?_map, List.getElem?_set_self hl]; rfl), _, rfl, rfl, ?_⟩
    refine bl_of (q1 rfl) ?_
    exact (decide_eq_true rfl).symm
  | some d =>
    refine iteF ?_
    refine ⟨_, rfl, _, rfl, a, _, _, _, rfl, rfl, SqL.of hA, ht, _, rfl, rfl, ?_⟩
    exact bl_of (q2 d rfl) (dvi _ _).symm
theorem chart_all {R : List (List Int)} (h : isChart R = true) : ∀ r ∈ R, r.length = wideOf R := by
  intro r hr
  simp only [isChart, Bool.and_eq_true, List.all_eq_true, decide_eq_true_eq] at h
  exact h.1.2 r hr
theorem flat_len : ∀ (rs : List (List Int)) (n : Nat), (∀ r ∈ rs, r.length = n) → (flat rs).length = rs.length * (n + 1)
  | [], n, _ => by
    show 0 = 0 * (n + 1)
    rw [Nat.zero_mul]
  | r :: rs, n, h => by
    have ih := flat_len rs n fun x hx => h x (List.mem_cons_of_mem _ hx)
    have e : flat (r :: rs) = (r ++ [10]) ++ flat rs := rfl
    rw [e, List.length_append, List.length_append, ih, h r (List.mem_cons_self ..)]
    show n + 1 + rs.length * (n + 1) = (rs.length + 1) * (n + 1)
    rw [Nat.succ_mul]
    omega
theorem chart_small {R : List (List Int)} (h : isChart R = true) : wideOf R ≤ 512 ∧ R.length ≤ 512 ∧ 1 ≤ wideOf R ∧ 1 ≤ R.length := by
  simp only [isChart, sizeOkI, Bool.and_eq_true, decide_eq_true_eq] at h
  omega
/-- a comprehension without a test -/
theorem yes_turn {σ : L2.St} {H : Hp} {A B : Hp → Prop} (h : A H) : tYes σ H (fun b H3 => if b = true then A H3 else B H3) := (if_pos rfl : (if true = true then A H else B H) = A H).mpr h
/-! ### gathered -/
theorem chart_row {H : Hp} {a : Addr} {R : List (List Int)} (h : ChartAt H a R) : ∃ as : List Addr, H a = some (.lst (as.map V.ref)) ∧ as.length = R.length ∧ ∀ (j : Nat) (b : Addr), as[j]? = some b → ∃ r, R[j]? = some r ∧ H b = some (.lst (r.map V.int)) := by
  obtain ⟨as, e, hR⟩ := h
  exact ⟨as, e, hR.len, fun j b hb => hR.get hb⟩
theorem item_at {R : List (List Int)} {r : List Int} {x y : Nat} {c : Int} (h1 : R[y]? = some r) (h2 : r[x]? = some c) : item R x y = c := by
  unfold item
  rw [List.getD_eq_getElem?_getD, List.getD_eq_getElem?_getD, h1, Option.getD_some, h2, Option.getD_some]
def spGath : Sp := fun vs H Q _ => ∃ (s width h : Nat) (kind : Int) (a : Addr) (R : List (List Int)), vs = [.int s, .int width, .int kind, .int h, .ref a] ∧ ChartAt H a R ∧ isChart R = true ∧ 1 ≤ width ∧ width ≤ 100000 ∧ 0 ≤ kind ∧ kind ≤ 2 ∧ 1 ≤ h ∧ 2 * h < wideOf R ∧ 2 * h < R.length ∧ (s = 1 ∨ (s = 2 ∧ width = h)) ∧
  (Differ R (knot (kk kind) width h (wideOf R - 2 * h) (R.length - 2 * h)) s (wideOf R - 2 * h) (R.length - 2 * h) h → ∀ H', Same H H' → Q .non H') ∧
  ∀ p U H', Same H H' → Filled (knot (kk kind) width h (wideOf R - 2 * h) (R.length - 2 * h)) R s width h (Within (wideOf R - 2 * h) (R.length - 2 * h) h) U → TblAt H' p (tabV U) → Q (.ref p) H'
theorem scGath : FnScope ["source", "width", "kind", "h", "rug", "W", "H", "row", "chart", "y", "x", "colour", "knot"] ["source", "width", "kind", "h", "rug"] (defScope sGath) := ⟨rfl, rfl, rfl, by decide +kernel, rfl, by decide +kernel, by decide +kernel⟩
theorem ok_gath {fK fT : Addr} {dK dT : FuncData} (F : Fun K "gathered" "gathered" sGath f fd) (ml : mg "len" = none) (mr : mg "range" = none) (me : mg "enumerate" = none) (N : Defs K P w mg base 2 "knot_of" ["kind", "L", "h", "W", "H", "x", "y"] spKnot fK dK)
    (T : Defs K P w mg base 1 "takes_colour" ["row", "x", "colour"] spTake fT dT) : FnOk P w K mg base CX0 3 f fd ["source", "width", "kind", "h", "rug"] spGath := by
  refine F.ok scGath (fun vs H Q E h => ?_) (fun cdv A outer s H vs Q E hr h => ?_)
  · obtain ⟨s, w, h, k, a, R, rfl, _⟩ := h
    rfl
  obtain ⟨s, width, h, kind, a, R, rfl, hA, iR, w1, w2, k0, k2, h1, ow, ov, hs, qn, qy⟩ := h
  have hr1 : Room 1 _ := hr.mono (by decide)
  refine ⟨_, pss_cons (ps_set (i := 5) scGath.nd rfl (.inl rfl) (pe_op op_sub (pe_callB call_len_seq rfl ml PySem.boot_len (pa_cons (pe_ix ix_list (pv 4) pe_int (fun _ _ => rfl)) pa_nil)) (pe_op op_mul pe_int (pv 3))))
    (pss_cons (ps_set (i := 6) scGath.nd rfl (.inl rfl) (pe_op op_sub (pe_callB call_len_seq rfl ml PySem.boot_len (pn 4 pa_nil)) (pe_op op_mul pe_int (pv 3))))
    (pss_cons (ps_setLc (i := 8) (own := [("row", 7)]) (g := gName 7) (tt := tYes) rfl scGath.nd rfl rfl (sw_true rfl rfl rfl (by decide +kernel))
      (pi_range1 rfl mr (pn 3 pa_nil)) (blkOk_by (N := ["source", "width", "kind", "h", "rug", "W", "H", "row", "chart", "y", "x", "colour", "knot"]) (sc := defScope sGath) (by decide +kernel))
      (fun _ _ _ _ _ => pg_name (i := 7) scGath.nd rfl (Or.inl rfl)) (fun _ _ _ _ _ => pts_nil) (fun _ _ _ _ _ => pe_op op_rep (pe_lst (pa_cons pe_non pa_nil)) (pv 1)))
    (pss_cons (ps_for PassesOwn.never rfl (pi_enum rfl me (pn 4 pa_nil)) (pg_tup rfl (pgs_cons (pg_name (i := 9) scGath.nd rfl (.inl rfl)) (pgs_cons (pg_name (i := 7) scGath.nd rfl (.inl rfl)) pgs_nil)))
      (pss_one (ps_for PassesOwn.never rfl (pi_enum rfl me (pn 7 pa_nil)) (pg_tup rfl (pgs_cons (pg_name (i := 10) scGath.nd rfl (.inl rfl)) (pgs_cons (pg_name (i := 11) scGath.nd rfl (.inl rfl)) pgs_nil)))
        (pss_cons (ps_set (i := 12) scGath.nd rfl (.inl rfl) (pe_call N.G hr rfl N.m N.kp N.b .nil pass0 (pn 2 (pn 1 (pn 3 (pn 5 (pn 6 (pn 10 (pn 9 pa_nil)))))))))
        (pss_one (ps_if (PW.pt (pw_and (pt_cmpR op_eq (pe_ix ix_tup (pv 12) pe_int (fun _ _ => rfl)) (pv 0) (nomark _)) (pw_and1 (pt_not (pt_val (pe_call T.G hr1 rfl T.m T.kp T.b .nil pass0
          (pa_cons (pe_ix ix_list (pv 8) (pe_ix ix_tup (pv 12) pe_int (fun _ _ => rfl)) (fun _ _ => rfl)) (pa_cons (pe_ix ix_tup (pv 12) pe_int (fun _ _ => rfl)) (pn 11 pa_nil)))))))))
          (pss_one (ps_ret pe_non)) pss_nil))))))
    (pss_one (ps_ret (pv 8)))))), ?_⟩
  have one : (1 : Nat) ≤ sizeLine := by decide
  obtain ⟨as0, b0, x0, eA, lA, zA, eB, wR⟩ := row0_at hA iR
  obtain ⟨asR, eR, lR, hRow⟩ := chart_row hA
  obtain ⟨m1, m2, m3, m4⟩ := chart_small iR
  have all := chart_all iR
  refine ⟨_, rfl, a, _, _, _, rfl, rfl, SqL.of eA, zA, b0, _, rfl, .inl (SqL.of eB), _, rfl, _, _, rfl, rfl, .inl ⟨by decide, by decide⟩, _, _, rfl, rfl, ?_⟩
  rw [wR]
  refine ⟨_, rfl, a, _, rfl, .inl (SqL.of eA), _, rfl, _, _, rfl, rfl, .inl ⟨by decide, by decide⟩, _, _, rfl, rfl, ?_⟩
  rw [List.length_map, lA]
  have eW : ((wideOf R : Nat) : Int) - 2 * ((h : Nat) : Int) = ((wideOf R - 2 * h : Nat) : Int) := by omega
  have eH : ((R.length : Nat) : Int) - 2 * ((h : Nat) : Int) = ((R.length - 2 * h : Nat) : Int) := by omega
  have hn : ((h : Nat) : Int).toNat = h := Int.toNat_natCast h
  have sW : wideOf R - 2 * h + 2 * h = wideOf R := by omega
  have sH : R.length - 2 * h + 2 * h = R.length := by omega
  have gin : ∀ x y, x < wideOf R → y < R.length → In3 (kk kind) width h (wideOf R - 2 * h) (R.length - 2 * h) (knot (kk kind) width h (wideOf R - 2 * h) (R.length - 2 * h) x y) := fun x y hx hy => knot_in (kk kind) (by omega) (by omega) w1
  refine ⟨_, rfl, _, rfl, by omega, by omega, fun pc hpc => lc_range (lo := 0) (n := ((h : Nat) : Int).toNat) (fun i H' => Same H H' ∧ ∃ as : List Addr, TabAt H H' pc as (List.replicate i (List.replicate width V.non)))
    ⟨same_new hpc _, [], TabAt.empty hpc⟩ ?_ ?_⟩
  · rintro i H' hi ⟨s1, as, T1⟩
    refine ⟨rfl, yes_turn ?_⟩
    refine ⟨one, fun pl hpl => ?_⟩
    have sl := same_new hpl (.lst [V.non])
    refine ⟨_, rfl, pl, _, _, rfl, rfl, upd_same, by omega, by omega, ?_, fun pr hpr => ?_⟩
    · rw [Int.toNat_natCast]
      show 1 * width ≤ sizeLine
      rw [Nat.one_mul]
      exact Nat.le_of_lt (line_small (by omega))
    have sr := same_new hpr (.lst (List.replicate ((width : Nat) : Int).toNat [V.non]).flatten)
    have T2 := (T1.same sl).same sr
    have ap := (T1.same sl).apart hpr
    have lt := T2.len
    rw [List.length_replicate] at lt
    refine ⟨as.map V.ref, T2.top, ?_, (same_put ((s1.trans sl).trans sr) hpc _), as ++ [pr], ?_⟩
    · rw [List.length_map, lt]
      exact line_small (by omega)
    · have T3 := T2.push (a := pr) (r := List.replicate width V.non) (by rw [upd_same, Int.toNat_natCast, rep_one]) ((s1.trans sl).free hpr) ap.1 ap.2
      rw [← List.replicate_succ'] at T3
      exact T3
  · rintro H1 ⟨s1, as1, T1⟩
    rw [hn, ← tab_blank] at T1
    refine ⟨_, rfl, a, _, rfl, SqL.of (s1 _ _ eR), for_it (walk_enum (xs := asR.map V.ref)) (fun i σ H2 => ∃ (as : List Addr) (U : List (List (Option Int))) (v7 v9 v10 v11 v12 : Option V),
      σ = [some (.int (s : Nat)), some (.int (width : Nat)), some (.int kind), some (.int (h : Nat)), some (.ref a), some (.int (((wideOf R : Nat) : Int) - 2 * ((h : Nat) : Int))), some (.int (((R.length : Nat) : Int) - 2 * ((h : Nat) : Int))), v7, some (.ref pc), v9, v10, v11, v12] ∧
      Same H H2 ∧ TabAt H H2 pc as (tabV U) ∧ Filled (knot (kk kind) width h (wideOf R - 2 * h) (R.length - 2 * h)) R s width h (Ahead (wideOf R) 0 i) U)
      ⟨as1, _, _, _, _, _, _, rfl, s1, T1, filled_start (ahead_none _)⟩ (fun i σ H2 _ ⟨_, _, _, _, _, _, _, _, s2, _⟩ => SqL.of (s2 _ _ eR)) ?_ ?_⟩
    · rintro i x σ H2 H3 hi ⟨as, U, v7, v9, v10, v11, v12, rfl, s2, T2, F2⟩ ⟨pt, x1, x2, rfl, hpt, rfl, e1, e2⟩
      have e1' : V.int (i : Nat) = x1 := Option.some.inj e1
      subst e1'
      obtain ⟨b, hb, rfl⟩ := map_at e2
      obtain ⟨r, hr1, hr2⟩ := hRow i b hb
      have lr := all r (List.mem_of_getElem? hr1)
      have hiR : i < R.length := (List.getElem?_eq_some_iff.mp hr1).1
      have st := same_new hpt (.tup [V.int (i : Nat), V.ref b])
      refine ⟨pt, _, rfl, SqT.of upd_same, rfl, _, _, rfl, _, _, rfl, rfl, ?_⟩
      refine ⟨_, rfl, b, _, rfl, SqL.of ((s2.trans st) _ _ hr2), for_it (walk_enum (xs := r.map V.int)) (fun j σ H4 => ∃ (as : List Addr) (U : List (List (Option Int))) (v10 v11 v12 : Option V),
        σ = [some (.int (s : Nat)), some (.int (width : Nat)), some (.int kind), some (.int (h : Nat)), some (.ref a), some (.int (((wideOf R : Nat) : Int) - 2 * ((h : Nat) : Int))), some (.int (((R.length : Nat) : Int) - 2 * ((h : Nat) : Int))), some (.ref b), some (.ref pc), some (.int (i : Nat)), v10, v11, v12] ∧
        Same H H4 ∧ TabAt H H4 pc as (tabV U) ∧ Filled (knot (kk kind) width h (wideOf R - 2 * h) (R.length - 2 * h)) R s width h (Ahead (wideOf R) j i) U)
        ⟨as, U, _, _, _, rfl, s2.trans st, T2.same st, F2⟩ (fun j σ H4 _ ⟨_, _, _, _, _, _, s4, _⟩ => SqL.of (s4 _ _ hr2)) ?_ ?_⟩
      · rintro j y σ H4 H5 hj ⟨as, U, v10, v11, v12, rfl, s4, T4, F4⟩ ⟨pt2, y1, y2, rfl, hpt2, rfl, e3, e4⟩
        have e3' : V.int (j : Nat) = y1 := Option.some.inj e3
        subst e3'
        obtain ⟨c, hc, rfl⟩ := map_at e4
        have hjW : j < wideOf R := by rw [← lr]; exact (List.getElem?_eq_some_iff.mp hc).1
        have it : item R j i = c := item_at hr1 hc
        have st2 := same_new hpt2 (.tup [V.int (j : Nat), V.int c])
        refine ⟨pt2, _, rfl, SqT.of upd_same, rfl, _, _, rfl, _, _, rfl, rfl, ?_⟩
        refine ⟨_, rfl, _, rfl, _, rfl, _, rfl, _, rfl, _, rfl, _, rfl, kind, width, h, wideOf R - 2 * h, R.length - 2 * h, j, i, (by rw [eW, eH] <;> rfl), w1, by omega, by omega, k0, k2, fun pk H6 s6 hk => ?_⟩
        have I := gin j i hjW hiR
        have s46 := (s4.trans st2).trans s6
        have T6 := (T4.same st2).same s6
        cases eq : knot (kk kind) width h (wideOf R - 2 * h) (R.length - 2 * h) j i with
        | mk q1 q2 =>
        obtain ⟨ii, jj⟩ := q2
        rw [eq] at hk I
        have hk' : H6 pk = some (.tup [.int (q1 : Nat), .int (ii : Nat), .int (jj : Nat)]) := hk
        refine ⟨_, rfl, pk, _, _, _, rfl, rfl, SqT.of hk', at_zero _ _, _, rfl, rfl, _, rfl, ?_⟩
        rw [dvi]
        by_cases cs : q1 = s
        rotate_left
        · rw [decide_eq_false (show ¬ ((q1 : Nat) : Int) = ((s : Nat) : Int) by omega)]
          exact iteF (iteF ⟨as, U, _, _, _, rfl, s46, T6, F4.skip (ahead_more hjW) (by rw [eq]; exact cs)⟩)
        subst cs
        rw [decide_eq_true rfl]
        refine iteT ?_
        have hin : ii < width ∧ jj < h := by
          rcases hs with rfl | ⟨rfl, rfl⟩
          · exact I.s rfl
          · exact (I.c rfl).2
        obtain ⟨row, hrow, lrow, hcell⟩ := cell_in F4.wide hin.1 (show jj < U.length by rw [F4.high]; exact hin.2)
        have hjas : jj < as.length := by
          have := T6.len
          unfold tabV at this
          rw [List.length_map, F4.high] at this
          omega
        have hp := List.getElem?_eq_getElem hjas
        have hV : (tabV U)[jj]? = some (row.map ovV) := by
          unfold tabV
          rw [List.getElem?_map, hrow]
          rfl
        have hP := T6.row jj _ _ hp hV
        have mp : as[jj] ∈ as := List.getElem_mem hjas
        refine ⟨_, rfl, _, rfl, pk, _, _, _, rfl, rfl, SqT.of hk', at_two _ _ _ _, pc, _, _, _, rfl, rfl, SqL.of T6.top, atI_nat (by rw [List.getElem?_map, hp]; rfl), ?_⟩
        refine ⟨_, rfl, pk, _, _, _, rfl, rfl, SqT.of hk', at_one _ _ _, _, rfl, as[jj], row, ii, c, cell U ii jj, rfl, hP, hcell, fun cn => ?_, fun d hd => ?_⟩
        · refine ⟨_, rfl, iteF ⟨as, U.set jj (row.set ii (some c)), _, _, _, rfl, T6.keeps s46 mp _, ?_, ?_⟩⟩
          · have T7 := T6.put (r := (row.set ii (some c)).map ovV) hp (by unfold tabV; rw [List.length_map, F4.high]; exact hin.2)
            have z : tabV (U.set jj (row.set ii (some c))) = (tabV U).set jj ((row.set ii (some c)).map ovV) := by
              unfold tabV
              rw [List.map_set]
            rw [z]
            exact T7
          · rw [← it]
            exact F4.put (ahead_more hjW) eq hrow hin.1 cn
        · refine ⟨_, rfl, ?_⟩
          by_cases dc : d = c
          · subst dc
            rw [decide_eq_true rfl]
            exact iteF ⟨as, U, _, _, _, rfl, s46, T6, F4.keep (ahead_more hjW) eq (by rw [it]; exact hd)⟩
          · rw [decide_eq_false dc]
            refine iteT ?_
            obtain ⟨x', y', ah, g', ne⟩ := F4.clash (x := j) (y := i) hd (by rw [it]; exact dc)
            refine qn ⟨x', y', j, i, ii, jj, ?_, ?_, g', eq, ne⟩ H6 s46
            · unfold Ahead at ah
              exact ⟨by omega, by omega⟩
            · exact ⟨by omega, by omega⟩
      · rintro σ H4 ⟨as, U, v10, v11, v12, rfl, s4, T4, F4⟩
        rw [List.length_map, lr] at F4
        exact ⟨as, U, _, _, _, _, _, rfl, s4, T4, F4.eqv fun a b => ahead_row a b⟩
    · rintro σ H2 ⟨as, U, v7, v9, v10, v11, v12, rfl, s2, T2, F2⟩
      rw [List.length_map, lR] at F2
      refine ⟨_, rfl, qy pc U H2 s2 (F2.eqv fun x y => ?_) T2.tbl⟩
      unfold RM.Within Ahead
      omega
/-! ### comes_out_along -/
def alongZ (kind L h side : Int) : Bool := if kind = 0 then decide (side % L = 0) else if kind = 1 then decide ((side + 2 * h) % (2 * L) = 0) else decide ((side + h) % L = 0)
def spAlong : Sp := fun vs H Q _ => ∃ kind L h side : Int, vs = [.int kind, .int L, .int h, .int side] ∧ 0 < L ∧ Q (.bl (alongZ kind L h side)) H
theorem scAlong : FnScope ["kind", "L", "h", "side"] ["kind", "L", "h", "side"] (defScope sAlong) := ⟨rfl, rfl, rfl, by decide +kernel, rfl, by decide +kernel, by decide +kernel⟩
theorem ok_along {t t2 : Tok} (F : Fun K "comes_out_along" "comes_out_along" sAlong f fd) (m0 : mg "SET" = some (.int 0 t)) (m1 : mg "MET" = some (.int 1 t2)) : FnOk P w K mg base CX0 1 f fd ["kind", "L", "h", "side"] spAlong := by
  refine F.ok scAlong (fun vs H Q E h => ?_) (fun cdv A outer s H vs Q E hr h => ?_)
  · obtain ⟨a, b, c, d, rfl, _⟩ := h
    rfl
  obtain ⟨kind, L, h, side, rfl, hL, q⟩ := h
  refine ⟨_, pss_cons (ps_if (pt_cmpR op_eq (pv 0) (pe_gi rfl m0) (nomark _)) (pss_one (ps_ret (pe_cmpR op_eq (pe_op op_mod (pv 3) (pv 1)) pe_int (nomark _)))) pss_nil)
    (pss_cons (ps_if (pt_cmpR op_eq (pv 0) (pe_gi rfl m1) (nomark _)) (pss_one (ps_ret (pe_cmpR op_eq (pe_op op_mod (pe_op op_add (pv 3) (pe_op op_mul pe_int (pv 2))) (pe_op op_mul pe_int (pv 1))) pe_int (nomark _)))) pss_nil)
    (pss_one (ps_ret (pe_cmpR op_eq (pe_op op_mod (pe_op op_add (pv 3) (pv 2)) (pv 1)) pe_int (nomark _))))), ?_⟩
  unfold alongZ at q
  refine ⟨_, rfl, rfl, _, rfl, ite2 (fun c => ?_) (fun c => ?_)⟩
  · have c : kind = 0 := V.int.inj (of_decide_eq_true c)
    rw [if_pos c] at q
    exact ⟨_, rfl, _, rfl, _, _, rfl, rfl, hL, rfl, bl_of q (dvi _ _).symm⟩
  have c : ¬ kind = 0 := fun z => c (decide_eq_true (congrArg V.int z))
  rw [if_neg c] at q
  refine ⟨_, rfl, rfl, _, rfl, ite2 (fun c1 => ?_) (fun c1 => ?_)⟩
  · have c1 : kind = 1 := V.int.inj (of_decide_eq_true c1)
    rw [if_pos c1] at q
    exact ⟨_, rfl, _, rfl, _, _, rfl, rfl, .inl ⟨by decide, by decide⟩, _, _, rfl, rfl, _, rfl, _, _, rfl, rfl, .inl ⟨by decide, by decide⟩, _, _, rfl, rfl, (by show (0 : Int) < 2 * L; omega), rfl, bl_of q (dvi _ _).symm⟩
  have c1 : ¬ kind = 1 := fun z => c1 (decide_eq_true (congrArg V.int z))
  rw [if_neg c1] at q
  exact ⟨_, rfl, _, rfl, _, _, rfl, rfl, _, rfl, _, _, rfl, rfl, hL, rfl, bl_of q (dvi _ _).symm⟩
/-! ### comes_out -/
theorem out_along (kind L h W Hh : Int) : outZ kind L h W Hh = (alongZ kind L h W && alongZ kind L h Hh) := by
  unfold outZ alongZ
  by_cases c0 : kind = 0
  · rw [if_pos c0, if_pos c0, if_pos c0]
  · rw [if_neg c0, if_neg c0, if_neg c0]
    by_cases c1 : kind = 1
    · rw [if_pos c1, if_pos c1, if_pos c1]
    · rw [if_neg c1, if_neg c1, if_neg c1]
def spOut : Sp := fun vs H Q _ => ∃ kind L h W Hh : Int, vs = [.int kind, .int L, .int h, .int W, .int Hh] ∧ 0 < L ∧ Q (.bl (outZ kind L h W Hh)) H
theorem scOut : FnScope ["kind", "L", "h", "W", "H"] ["kind", "L", "h", "W", "H"] (defScope sOut) := ⟨rfl, rfl, rfl, by decide +kernel, rfl, by decide +kernel, by decide +kernel⟩
theorem ok_out {fA : Addr} {dA : FuncData} (F : Fun K "comes_out" "comes_out" sOut f fd) (A : Defs K P w mg base 1 "comes_out_along" ["kind", "L", "h", "side"] spAlong fA dA) : FnOk P w K mg base CX0 2 f fd ["kind", "L", "h", "W", "H"] spOut := by
  refine F.ok scOut (fun vs H Q E h => ?_) (fun cdv Ar outer s H vs Q E hr h => ?_)
  · obtain ⟨a, b, c, d, e, rfl, _⟩ := h
    rfl
  obtain ⟨kind, L, h, W, Hh, rfl, hL, q⟩ := h
  refine ⟨_, pss_one (ps_ret (pe_and (pe_call A.G hr rfl A.m A.kp A.b .nil pass0 (pn 0 (pn 1 (pn 2 (pn 3 pa_nil))))) (pe_one (pe_call A.G hr rfl A.m A.kp A.b .nil pass0 (pn 0 (pn 1 (pn 2 (pn 4 pa_nil)))))))), ?_⟩
  rw [out_along] at q
  refine ⟨_, rfl, _, rfl, _, rfl, _, rfl, kind, L, h, W, rfl, hL, _, rfl, ite2 (fun c => ?_) (fun c => ?_)⟩
  · rw [c] at q
    exact ⟨_, rfl, _, rfl, _, rfl, _, rfl, kind, L, h, Hh, rfl, hL, q⟩
  · rw [Bool.eq_false_iff.mpr c] at q
    exact q
/-! ### folded -/
def spFold : Sp := fun vs H Q _ => ∃ (L : Nat) (a : Addr) (U : List (List (Option Int))), vs = [.int L, .ref a] ∧ 1 ≤ L ∧ L ≤ 512 ∧ TblAt H a (tabV U) ∧ U.length ≤ 1000 ∧
  (ClashTab U L → ∀ H', Same H H' → Q .non H') ∧ ∀ p S H', Same H H' → FoldTab U L S → TblAt H' p (tabV S) → Q (.ref p) H'
theorem scFold : FnScope ["L", "unwound", "strip", "unwound_row", "row", "i", "colour"] ["L", "unwound"] (defScope sFold) := ⟨rfl, rfl, rfl, by decide +kernel, rfl, by decide +kernel, by decide +kernel⟩
theorem tab_row {U : List (List (Option Int))} {j : Nat} {r : List (Option Int)} (h : U[j]? = some r) : (tabV U)[j]? = some (r.map ovV) := by
  unfold tabV
  rw [List.getElem?_map, h]
  rfl
theorem dec_int {c : Int} : decide (V.int c = V.non) = false := decide_eq_false (fun z => by cases z)
theorem ok_fold {fT : Addr} {dT : FuncData} (F : Fun K "folded" "folded" sFold f fd) (me : mg "enumerate" = none) (T : Defs K P w mg base 1 "takes_colour" ["row", "x", "colour"] spTake fT dT) : FnOk P w K mg base CX0 2 f fd ["L", "unwound"] spFold := by
  refine F.ok scFold (fun vs H Q E h => ?_) (fun cdv A outer s H vs Q E hr h => ?_)
  · obtain ⟨L, a, U, rfl, _⟩ := h
    rfl
  obtain ⟨L, a, U, rfl, l1, l2, ⟨asU, eU, lU, hU⟩, small, qn, qy⟩ := h
  refine ⟨_, pss_cons (ps_set (i := 2) scFold.nd rfl (.inl rfl) (pe_lst pa_nil))
    (pss_cons (ps_for PassesOwn.never rfl (pi_list (pv 1)) (pg_name (i := 3) scFold.nd rfl (.inl rfl))
      (pss_cons (ps_set (i := 4) scFold.nd rfl (.inl rfl) (pe_op op_rep (pe_lst (pa_cons pe_non pa_nil)) (pv 0)))
      (pss_cons (ps_for PassesOwn.never rfl (pi_enum rfl me (pn 3 pa_nil)) (pg_tup rfl (pgs_cons (pg_name (i := 5) scFold.nd rfl (.inl rfl)) (pgs_cons (pg_name (i := 6) scFold.nd rfl (.inl rfl)) pgs_nil)))
        (pss_one (ps_if (PW.pt (pw_and (pt_cmpR op_notN (pv 6) pe_non (nomark _)) (pw_and1 (pt_not (pt_val (pe_call T.G hr rfl T.m T.kp T.b .nil pass0 (pn 4 (pa_cons (pe_op op_mod (pv 5) (pv 0)) (pn 6 pa_nil)))))))))
          (pss_one (ps_ret pe_non)) pss_nil)))
      (pss_one (ps_expr (pe_bm PySem.F.plainAttrs_list PySem.F.slot_list_append PySem.F.type_list_append mt_append (pv 2) (pa_cons (pv 4) pa_nil)))))))
    (pss_one (ps_ret (pv 2)))), ?_⟩
  have one : (1 : Nat) ≤ sizeLine := by decide
  have lU' : asU.length = U.length := by
    unfold tabV at lU
    rw [List.length_map] at lU
    exact lU
  refine ⟨(by show 0 ≤ sizeLine; decide), fun ps hps => ?_⟩
  have s0 := same_new hps (.lst [])
  refine ⟨_, rfl, a, rfl, ⟨_, SqL.of (s0 _ _ eU)⟩, for_list (K := K) (a := a) (xs := asU.map V.ref) (fun i σ H2 => ∃ (as : List Addr) (S : List (List (Option Int))) (v3 v4 v5 v6 : Option V),
    σ = [some (.int (L : Nat)), some (.ref a), some (.ref ps), v3, v4, v5, v6] ∧ Same H H2 ∧ TabAt H H2 ps as (tabV S) ∧ S.length = i ∧ ∀ (j : Nat) (r s : List (Option Int)), U[j]? = some r → S[j]? = some s → Fold1 r L r.length s)
    ⟨[], [], _, _, _, _, rfl, s0, TabAt.empty hps, rfl, fun j r s _ z => by simp at z⟩ (fun i σ H2 _ ⟨_, _, _, _, _, _, _, s2, _⟩ => SqL.of (s2 _ _ eU)) ?_ ?_⟩
  · rintro i x σ H2 hi ⟨as, S, v3, v4, v5, v6, rfl, s2, T2, lS, hS⟩
    obtain ⟨b, hb, rfl⟩ := map_at hi
    have hiU : i < U.length := by rw [← lU']; exact (List.getElem?_eq_some_iff.mp hb).1
    have hr := List.getElem?_eq_getElem hiU
    have hB := hU i b _ hb (tab_row hr)
    refine ⟨one, fun pl hpl => ?_⟩
    have sl := same_new hpl (.lst [V.non])
    refine ⟨_, rfl, pl, _, _, rfl, rfl, upd_same, by omega, by omega, ?_, fun pr hpr => ?_⟩
    · rw [Int.toNat_natCast]
      show 1 * L ≤ sizeLine
      rw [Nat.one_mul]
      exact Nat.le_of_lt (line_small (by omega))
    rw [Int.toNat_natCast, rep_one]
    have sr := same_new hpr (.lst (List.replicate L V.non))
    have s3 := (s2.trans sl).trans sr
    have ap := (T2.same sl).apart hpr
    have hpr0 := (s2.trans sl).free hpr
    refine ⟨_, rfl, b, _, rfl, SqL.of (s3 _ _ hB), for_it (walk_enum (xs := (U[i]).map ovV)) (fun j σ H4 => ∃ (s : List (Option Int)) (v5 v6 : Option V),
      σ = [some (.int (L : Nat)), some (.ref a), some (.ref ps), some (.ref b), some (.ref pr), v5, v6] ∧ Same H H4 ∧ TabAt H H4 ps as (tabV S) ∧ H4 pr = some (.lst (s.map ovV)) ∧ Fold1 U[i] L j s)
      ⟨List.replicate L none, _, _, rfl, s3, (T2.same sl).same sr, by rw [upd_same, blank_row], fold1_start _ _⟩ (fun j σ H4 _ ⟨_, _, _, _, s4, _⟩ => SqL.of (s4 _ _ hB)) ?_ ?_⟩
    · rintro j y σ H4 H5 hj ⟨s, v5, v6, rfl, s4, T4, e4, F4⟩ ⟨pt, y1, y2, rfl, hpt, rfl, e1, e2⟩
      have e1' : V.int (j : Nat) = y1 := Option.some.inj e1
      subst e1'
      obtain ⟨c, hc, rfl⟩ := map_at e2
      have st := same_new hpt (.tup [V.int (j : Nat), ovV c])
      have T5 := T4.same st
      have s5 := s4.trans st
      have e5 := st _ _ e4
      refine ⟨pt, _, rfl, SqT.of upd_same, rfl, _, _, rfl, _, _, rfl, rfl, ?_⟩
      refine ⟨_, rfl, rfl, _, rfl, ?_⟩
      cases c with
      | none => exact iteF (iteF ⟨s, _, _, rfl, s5, T5, e5, F4.skip hc⟩)
      | some c =>
      have hm : j % L < s.length := by rw [F4.len]; exact Nat.mod_lt _ l1
      have hs := List.getElem?_eq_getElem hm
      show (if (!decide (V.int c = V.non)) = true then _ else _)
      rw [dec_int]
      refine iteT ?_
      have em : ((j : Nat) : Int) % ((L : Nat) : Int) = ((j % L : Nat) : Int) := by rw [Int.natCast_emod]
      refine ⟨_, rfl, _, rfl, _, rfl, _, _, rfl, rfl, (by show (0 : Int) < ((L : Nat) : Int); omega), _, rfl, pr, s, j % L, c, s[j % L], (by show [V.ref pr, V.int (((j : Nat) : Int) % ((L : Nat) : Int)), V.int c] = _; rw [em]), e5, hs, fun cn => ?_, fun d hd => ?_⟩
      · rw [cn] at hs
        refine ⟨_, rfl, iteF ⟨s.set (j % L) (some c), _, _, rfl, same_put s5 hpr0 _, T5.other _ ap.1 ap.2, upd_same, F4.put hc hs⟩⟩
      · rw [hd] at hs
        refine ⟨_, rfl, ?_⟩
        by_cases dc : d = c
        · subst dc
          rw [decide_eq_true rfl]
          exact iteF ⟨s, _, _, rfl, s5, T5, e5, F4.keep hc hs⟩
        · rw [decide_eq_false dc]
          exact iteT (qn ⟨_, List.mem_of_getElem? hr, F4.clash hc hs dc⟩ _ s5)
    · rintro σ H4 ⟨s, v5, v6, rfl, s4, T4, e4, F4⟩
      rw [List.length_map] at F4
      have la : as.length = i := by
        have := T4.len
        unfold tabV at this
        rw [List.length_map, lS] at this
        exact this
      refine ⟨_, rfl, .inl ⟨rfl, _, SqL.of T4.top⟩, _, rfl, ps, _, _, rfl, rfl, T4.top, (by rw [List.length_map, la]; exact line_small (by omega)), ?_⟩
      refine ⟨as ++ [pr], S ++ [s], _, _, _, _, rfl, same_put s4 hps _, ?_, by rw [List.length_append, lS]; rfl, fun j r q hj hq => ?_⟩
      · have T6 := T4.push e4 hpr0 ap.1 ap.2
        have z : tabV (S ++ [s]) = tabV S ++ [s.map ovV] := by
          unfold tabV
          rw [List.map_append]
          rfl
        rw [z]
        exact T6
      · by_cases jl : j < S.length
        · rw [List.getElem?_append_left jl] at hq
          exact hS j r q hj hq
        · have hjq := (List.getElem?_eq_some_iff.mp hq).1
          rw [List.length_append, List.length_singleton] at hjq
          have ej : j = S.length := by omega
          subst ej
          rw [List.getElem?_concat_length] at hq
          cases hq
          rw [lS, hr] at hj
          cases hj
          exact F4
  · rintro σ H2 ⟨as, S, v3, v4, v5, v6, rfl, s2, T2, lS, hS⟩
    rw [List.length_map, lU'] at lS
    exact ⟨_, rfl, qy ps S H2 s2 ⟨lS, hS⟩ T2.tbl⟩
/-! ### all_coloured -/
def spAllC : Sp := fun vs H Q _ => ∃ (a : Addr) (S : List (List (Option Int))), vs = [.ref a] ∧ TblAt H a (tabV S) ∧ S.length ≤ 1000 ∧ (∀ r ∈ S, r.length ≤ 1000) ∧ ∀ p H', Same H H' → ChartAt H' p (colAll S) → Q (.ref p) H'
theorem scAllC : FnScope ["strip", "coloured", "row", "colour"] ["strip"] (defScope sAllC) := ⟨rfl, rfl, rfl, by decide +kernel, rfl, by decide +kernel, by decide +kernel⟩
theorem ok_allC {t : Tok} (F : Fun K "all_coloured" "all_coloured" sAllC f fd) (mF : mg "FIRST_COLOUR" = some (.int 97 t)) : FnOk P w K mg base CX0 1 f fd ["strip"] spAllC := by
  refine F.ok scAllC (fun vs H Q E h => ?_) (fun cdv A outer s H vs Q E hr h => ?_)
  · obtain ⟨a, S, rfl, _⟩ := h
    rfl
  obtain ⟨a, S, rfl, ⟨asS, eS, lS, hS⟩, small, wide, q⟩ := h
  refine ⟨_, pss_cons (ps_set (i := 1) scAllC.nd rfl (.inl rfl) (pe_lst pa_nil))
    (pss_cons (ps_for PassesOwn.never rfl (pi_list (pv 0)) (pg_name (i := 2) scAllC.nd rfl (.inl rfl))
      (pss_one (ps_expr (pe_bm PySem.F.plainAttrs_list PySem.F.slot_list_append PySem.F.type_list_append mt_append (pv 1) (pa_cons
        (pe_lc (own := [("colour", 3)]) (g := gName 3) (tt := tYes) rfl scAllC.nd (pi_list (pv 2)) (blkOk_by (N := ["strip", "coloured", "row", "colour"]) (sc := defScope sAllC) (by decide +kernel))
          (fun _ _ _ _ _ => pg_name (i := 3) scAllC.nd rfl (Or.inl rfl)) (fun _ _ _ _ _ => pts_nil)
          (fun _ _ _ _ _ => pe_ifExp (pt_cmpR op_isN (pv 3) pe_non (nomark _)) (pe_gi rfl mF) (pv 3))) pa_nil)))))
    (pss_one (ps_ret (pv 1)))), ?_⟩
  have lS' : asS.length = S.length := by
    unfold tabV at lS
    rw [List.length_map] at lS
    exact lS
  refine ⟨(by show 0 ≤ sizeLine; decide), fun ps hps => ?_⟩
  have s0 := same_new hps (.lst [])
  refine ⟨_, rfl, a, rfl, ⟨_, SqL.of (s0 _ _ eS)⟩, for_list (K := K) (a := a) (xs := asS.map V.ref) (fun i σ H2 => ∃ (as : List Addr) (v2 v3 : Option V),
    σ = [some (.ref a), some (.ref ps), v2, v3] ∧ Same H H2 ∧ TabAt H H2 ps as ((S.take i).map fun s => (colRow s).map V.int))
    ⟨[], _, _, rfl, s0, TabAt.empty hps⟩ (fun i σ H2 _ ⟨_, _, _, _, s2, _⟩ => SqL.of (s2 _ _ eS)) ?_ ?_⟩
  · rintro i x σ H2 hi ⟨as, v2, v3, rfl, s2, T2⟩
    obtain ⟨b, hb, rfl⟩ := map_at hi
    have hiS : i < S.length := by rw [← lS']; exact (List.getElem?_eq_some_iff.mp hb).1
    have hr := List.getElem?_eq_getElem hiS
    have hV : (tabV S)[i]? = some ((S[i]).map ovV) := by
      unfold tabV
      rw [List.getElem?_map, hr]
      rfl
    have hB := hS i b _ hb hV
    have la : as.length ≤ 1000 := by
      have := T2.len
      rw [List.length_map, List.length_take] at this
      omega
    have lr := wide _ (List.mem_of_getElem? hr)
    refine ⟨_, rfl, .inl ⟨rfl, _, SqL.of T2.top⟩, _, rfl, b, rfl, ⟨_, SqL.of (s2 _ _ hB)⟩, fun D hD => lc_list (K := K) (a := b) (xs := (S[i]).map ovV)
      (fun j H4 => Same H2 H4 ∧ H4 D = some (.lst ((colRow ((S[i]).take j)).map V.int))) ⟨same_new hD _, upd_same⟩ (fun j H4 _ ⟨s4, _⟩ => SqL.of (s4 _ _ (s2 _ _ hB))) ?_ ?_⟩
    · rintro j y H4 hj ⟨s4, e4⟩
      obtain ⟨c, hc, rfl⟩ := map_at hj
      have tm := take_more hc
      have fin : ∀ v : Int, v = c.getD 97 → ∃ acc, H4 D = some (.lst acc) ∧ acc.length < sizeLine ∧ Same H2 (upd H4 D (.lst (acc ++ [V.int v]))) ∧ upd H4 D (.lst (acc ++ [V.int v])) D = some (.lst ((colRow ((S[i]).take (j + 1))).map V.int)) := by
        intro v hv
        refine ⟨_, e4, ?_, same_put s4 hD _, ?_⟩
        · unfold colRow
          rw [List.length_map, List.length_map, List.length_take]
          exact line_small (by omega)
        · rw [upd_same, tm, hv]
          unfold colRow
          rw [List.map_append, List.map_append]
          rfl
      refine ⟨rfl, yes_turn ?_⟩
      refine ⟨_, rfl, rfl, _, rfl, ?_⟩
      cases c with
      | none => exact iteT (fin 97 rfl)
      | some c => exact iteF ⟨_, rfl, fin c rfl⟩
    · rintro H4 ⟨s4, e4⟩
      rw [List.length_map, List.take_of_length_le (Nat.le_refl _)] at e4
      have T4 := T2.same s4
      have ap := T2.apart hD
      refine ⟨ps, _, _, rfl, rfl, T4.top, (by rw [List.length_map]; exact line_small (by omega)), ?_⟩
      refine ⟨as ++ [D], _, _, rfl, same_put (s2.trans s4) hps _, ?_⟩
      have T5 := T4.push e4 (s2.free hD) ap.1 ap.2
      rw [take_more hr, List.map_append]
      exact T5
  · rintro σ H2 ⟨as, v2, v3, rfl, s2, T2⟩
    rw [List.length_map, lS', List.take_of_length_le (Nat.le_refl _)] at T2
    refine ⟨_, rfl, q ps H2 s2 (TabAt.chart (H0 := H) (as := as) ?_)⟩
    unfold colAll
    rw [List.map_map]
    exact T2
/-! ### shortest_strip -/
theorem kk_set {kind : Int} (h : kk kind = .set) : kind = 0 := by
  unfold kk at h
  by_cases k0 : kind = 0
  · exact k0
  · rw [if_neg k0] at h
    by_cases k1 : kind = 1
    · rw [if_pos k1] at h
      cases h
    · rw [if_neg k1] at h
      cases h
/-- kind == SET and gathered(OF_CORNER, h, kind, h, rug) is None, of what stands in the slots 0 to 2 -/
def tCorn0 : TT := fun σ H Q => ∃ (kind : Int) (h : Nat) (a : Addr) (R : List (List Int)), σ[0]? = some (some (.int kind)) ∧ σ[1]? = some (some (.int (h : Nat))) ∧ σ[2]? = some (some (.ref a)) ∧ ChartAt H a R ∧ isChart R = true ∧ 0 ≤ kind ∧ kind ≤ 2 ∧ 1 ≤ h ∧ h ≤ 1000 ∧ 2 * h < wideOf R ∧ 2 * h < R.length ∧
  (∀ H', Same H H' → Differ R (knot (kk kind) h h (wideOf R - 2 * h) (R.length - 2 * h)) 2 (wideOf R - 2 * h) (R.length - 2 * h) h → Q true H') ∧
  ∀ H', Same H H' → (kk kind = .set → ∃ w' C, Filled (knot (kk kind) w' h (wideOf R - 2 * h) (R.length - 2 * h)) R 2 h h (RM.Within (wideOf R - 2 * h) (R.length - 2 * h) h) C) → Q false H'
def spShort : Sp := fun vs H Q _ => ∃ (kind : Int) (h : Nat) (a : Addr) (R : List (List Int)), vs = [.int kind, .int h, .ref a] ∧ ChartAt H a R ∧ isChart R = true ∧ 0 ≤ kind ∧ kind ≤ 2 ∧ 1 ≤ h ∧ h ≤ 128 ∧ 2 * h < wideOf R ∧ 2 * h < R.length ∧
  ((∀ L, 1 ≤ L → L ≤ 512 → ¬ Makes R (kk kind) h L) → ∀ H', Same H H' → Q .non H') ∧
  ∀ L S p H', 1 ≤ L → L ≤ 512 → Makes R (kk kind) h L → (∀ i, 1 ≤ i → i < L → ¬ Makes R (kk kind) h i) → IsStrip R (kk kind) L h (wideOf R - 2 * h) (R.length - 2 * h) S → Same H H' → ChartAt H' p S → Q (.ref p) H'
theorem scShort : FnScope ["kind", "h", "rug", "W", "H", "unwound", "L", "strip"] ["kind", "h", "rug"] (defScope sShort) := ⟨rfl, rfl, rfl, by decide +kernel, rfl, by decide +kernel, by decide +kernel⟩
theorem ok_short {t0 t1 t2 t3 : Tok} {fG fO fD fA : Addr} {dG dO dD dA : FuncData} (F : Fun K "shortest_strip" "shortest_strip" sShort f fd) (ml : mg "len" = none) (mr : mg "range" = none) (mm : mg "max" = none) (m0 : mg "SET" = some (.int 0 t0)) (m1 : mg "OF_STRIP" = some (.int 1 t1)) (m2 : mg "OF_CORNER" = some (.int 2 t2))
    (mS : mg "MOST_SIDE" = some (.int 512 t3)) (G : Defs K P w mg base 3 "gathered" ["source", "width", "kind", "h", "rug"] spGath fG dG) (O : Defs K P w mg base 2 "comes_out" ["kind", "L", "h", "W", "H"] spOut fO dO)
    (D : Defs K P w mg base 2 "folded" ["L", "unwound"] spFold fD dD) (B : Defs K P w mg base 1 "all_coloured" ["strip"] spAllC fA dA) : FnOk P w K mg base CX0 4 f fd ["kind", "h", "rug"] spShort := by
  refine F.ok scShort (fun vs H Q E h => ?_) (fun cdv A outer s H vs Q E hr h => ?_)
  · obtain ⟨kind, h, a, R, rfl, _⟩ := h
    rfl
  obtain ⟨kind, h, a, R, rfl, hA, iR, k0, k2, h1, h2, ow, ov, qn, qy⟩ := h
  have hr1 : Room 1 _ := hr.mono (by decide)
  have hr2 : Room 2 _ := hr.mono (by decide)
  refine ⟨_, pss_cons (ps_set (i := 3) scShort.nd rfl (.inl rfl) (pe_op op_sub (pe_callB call_len_seq rfl ml PySem.boot_len (pa_cons (pe_ix ix_list (pv 2) pe_int (fun _ _ => rfl)) pa_nil)) (pe_op op_mul pe_int (pv 1))))
    (pss_cons (ps_set (i := 4) scShort.nd rfl (.inl rfl) (pe_op op_sub (pe_callB call_len_seq rfl ml PySem.boot_len (pn 2 pa_nil)) (pe_op op_mul pe_int (pv 1))))
    (pss_cons (ps_if (PT.weak (t' := tCorn0) (PW.pt (pw_and (pt_cmpR op_eq (pv 0) (pe_gi rfl m0) (nomark _)) (pw_and1 (pt_cmpR op_isN (pe_call G.G hr rfl G.m G.kp G.b .nil pass0 (pa_cons (pe_gi rfl m2) (pn 1 (pn 0 (pn 1 (pn 2 pa_nil)))))) pe_non (nomark _))))) (fun σ H Q hq => by
      obtain ⟨kind, h, a, R, e0, e1, e2, hA, iR, k0, k2, h1, h2, ow, ov, q1, q2⟩ := hq
      refine ⟨_, e0, rfl, _, rfl, ?_⟩
      rw [dvi]
      by_cases c : kind = 0
      · rw [decide_eq_true c]
        refine iteT ?_
        refine ⟨_, e1, _, e0, _, e1, _, e2, 2, h, h, kind, a, R, rfl, hA, iR, h1, by omega, k0, k2, h1, ow, ov, .inr ⟨rfl, rfl⟩, fun df H' s => ⟨rfl, _, rfl, q1 H' s df⟩, fun p U H' s FF TT => ⟨rfl, _, rfl, ?_⟩⟩
        rw [dec_ref]
        exact q2 H' s fun _ => ⟨h, U, FF⟩
      · rw [decide_eq_false c]
        exact iteF (q2 H (fun _ _ z => z) fun e => absurd (kk_set e) c)))
      (pss_one (ps_ret pe_non)) pss_nil)
    (pss_cons (ps_set (i := 5) scShort.nd rfl (.inl rfl) (pe_call G.G hr rfl G.m G.kp G.b .nil pass0 (pa_cons (pe_gi rfl m1) (pa_cons (pe_op op_add (pe_callB (call_max2 rfl) rfl mm (by decide +kernel) (pn 3 (pn 4 pa_nil))) (pe_op op_mul pe_int (pv 1))) (pn 0 (pn 1 (pn 2 pa_nil)))))))
    (pss_cons (ps_if (pt_cmpR op_isN (pv 5) pe_non (nomark _)) (pss_one (ps_ret pe_non)) pss_nil)
    (pss_cons (ps_for PassesOwn.never rfl (pi_range2 rfl mr (pa_cons pe_int (pa_cons (pe_op op_add (pe_gi rfl mS) pe_int) pa_nil))) (pg_name (i := 6) scShort.nd rfl (.inl rfl))
      (pss_one (ps_if (pt_val (pe_call O.G hr2 rfl O.m O.kp O.b .nil pass0 (pn 0 (pn 6 (pn 1 (pn 3 (pn 4 pa_nil)))))))
        (pss_cons (ps_set (i := 7) scShort.nd rfl (.inl rfl) (pe_call D.G hr2 rfl D.m D.kp D.b .nil pass0 (pn 6 (pn 5 pa_nil))))
        (pss_one (ps_if (pt_cmpR op_notN (pv 7) pe_non (nomark _)) (pss_one (ps_ret (pe_call B.G hr1 rfl B.m B.kp B.b .nil pass0 (pn 7 pa_nil)))) pss_nil)))
        pss_nil)))
    (pss_one (ps_ret pe_non))))))), ?_⟩
  obtain ⟨as0, b0, x0, eA, lA, zA, eB, wR⟩ := row0_at hA iR
  obtain ⟨m1', m2', m3, m4⟩ := chart_small iR
  have eW : ((wideOf R : Nat) : Int) - 2 * ((h : Nat) : Int) = ((wideOf R - 2 * h : Nat) : Int) := by omega
  have eH : ((R.length : Nat) : Int) - 2 * ((h : Nat) : Int) = ((R.length - 2 * h : Nat) : Int) := by omega
  refine ⟨_, rfl, a, _, _, _, rfl, rfl, SqL.of eA, zA, b0, _, rfl, .inl (SqL.of eB), _, rfl, _, _, rfl, rfl, .inl ⟨by decide, by decide⟩, _, _, rfl, rfl, ?_⟩
  rw [wR]
  refine ⟨_, rfl, a, _, rfl, .inl (SqL.of eA), _, rfl, _, _, rfl, rfl, .inl ⟨by decide, by decide⟩, _, _, rfl, rfl, ?_⟩
  rw [List.length_map, lA]
  have none_of : (∀ L, ¬ OneCol R (kk kind) L h (wideOf R - 2 * h) (R.length - 2 * h)) → ∀ H', Same H H' → Q .non H' := fun no => qn fun L _ _ m => no L m.2
  refine ⟨kind, h, a, R, rfl, rfl, rfl, hA, iR, k0, k2, h1, by omega, ow, ov, fun H1 s1 df => iteT (none_of (fun L => differ_corner df) H1 s1), fun H1 s1 cor => iteF ?_⟩
  obtain ⟨wd, ew⟩ : ∃ wd, wd = max (wideOf R - 2 * h) (R.length - 2 * h) + 2 * h := ⟨_, rfl⟩
  have emax : (if ((R.length : Nat) : Int) - 2 * ((h : Nat) : Int) > ((wideOf R : Nat) : Int) - 2 * ((h : Nat) : Int) then ((R.length : Nat) : Int) - 2 * ((h : Nat) : Int) else ((wideOf R : Nat) : Int) - 2 * ((h : Nat) : Int)) + 2 * ((h : Nat) : Int) = ((wd : Nat) : Int) := by
    split <;> omega
  refine ⟨_, rfl, _, rfl, _, _, rfl, _, rfl, _, _, rfl, rfl, .inl ⟨by decide, by decide⟩, _, _, rfl, rfl, _, rfl, _, rfl, _, rfl, 1, wd, h, kind, a, R, (by
    show [V.int 1, V.int ((if ((R.length : Nat) : Int) - 2 * ((h : Nat) : Int) > ((wideOf R : Nat) : Int) - 2 * ((h : Nat) : Int) then ((R.length : Nat) : Int) - 2 * ((h : Nat) : Int) else ((wideOf R : Nat) : Int) - 2 * ((h : Nat) : Int)) + 2 * ((h : Nat) : Int)), V.int kind, V.int (h : Nat), V.ref a] = _
    rw [emax] <;> rfl), hA.same s1, iR, by omega, by omega, k0, k2, h1, ow, ov, .inl rfl, fun df H2 s2 => ?_, fun pu U H2 s2 FU TU => ?_⟩
  · refine ⟨_, rfl, rfl, _, rfl, ?_⟩
    exact iteT (none_of (fun L => differ_strip (by omega) df) H2 (s1.trans s2))
  refine ⟨_, rfl, rfl, _, rfl, ?_⟩
  rw [dec_ref]
  refine iteF ?_
  have hwd : max (wideOf R - 2 * h) (R.length - 2 * h) + 2 * h ≤ wd := by omega
  have s12 := s1.trans s2
  refine ⟨_, _, rfl, rfl, 1, 512 + 1, rfl, ⟨by decide, by decide, by decide, by decide⟩, for_range (lo := 1) (n := ((512 + 1 : Int) - 1).toNat) (fun i σ H3 => ∃ v6 v7 : Option V,
    σ = [some (.int kind), some (.int (h : Nat)), some (.ref a), some (.int (((wideOf R : Nat) : Int) - 2 * ((h : Nat) : Int))), some (.int (((R.length : Nat) : Int) - 2 * ((h : Nat) : Int))), some (.ref pu), v6, v7] ∧ Same H2 H3 ∧ ∀ j, 1 ≤ j → j < 1 + i → ¬ Makes R (kk kind) h j)
    ⟨_, _, rfl, fun _ _ z => z, fun j z1 z2 => absurd z1 (by omega)⟩ ?_ ?_⟩
  · rintro i σ H3 hi ⟨v6, v7, rfl, s3, no⟩
    have hi' : i < 512 := hi
    have eL : (1 : Int) + ((i : Nat) : Int) = ((1 + i : Nat) : Int) := by omega
    rw [eL]
    have more : ¬ Makes R (kk kind) h (1 + i) → ∀ j, 1 ≤ j → j < 1 + (i + 1) → ¬ Makes R (kk kind) h j := fun n j z1 z2 => by
      by_cases e : j = 1 + i
      · rw [e]; exact n
      · exact no j z1 (by omega)
    refine ⟨_, rfl, _, rfl, _, rfl, _, rfl, _, rfl, kind, _, _, _, _, rfl, by omega, _, rfl, ?_⟩
    rw [eW, eH, out_nat]
    cases co : comesOut kind (1 + i) h (wideOf R - 2 * h) (R.length - 2 * h) with
    | false =>
      refine iteF ⟨_, _, rfl, s3, more fun m => ?_⟩
      have z := m.1
      rw [comes_fits, co] at z
      cases z
    | true =>
    refine iteT ?_
    refine ⟨_, rfl, _, rfl, 1 + i, pu, U, rfl, by omega, by omega, TU.same s3, by rw [FU.high]; omega, fun c H4 s4 => ?_, fun p S H4 s4 FT TS => ?_⟩
    · refine ⟨_, rfl, rfl, _, rfl, ?_⟩
      exact iteF ⟨_, _, rfl, s3.trans s4, more fun m => clash_no hwd FU c m.2⟩
    · refine ⟨_, rfl, rfl, _, rfl, ?_⟩
      rw [dec_ref]
      refine iteT ?_
      have lS : S.length = h := FT.len.trans FU.high
      refine ⟨_, rfl, p, S, rfl, TS, by omega, fun r hr => ?_, fun p2 H5 s5 ch => ?_⟩
      · obtain ⟨j, hj⟩ := List.getElem?_of_mem hr
        have hjl := (List.getElem?_eq_some_iff.mp hj).1
        have hu := List.getElem?_eq_getElem (show j < U.length by rw [← FT.len]; exact hjl)
        rw [(FT.row j _ r hu hj).len]
        omega
      · have fy := fold_yes hwd FU FT cor (show 1 ≤ 1 + i by omega)
        exact qy (1 + i) (colAll S) p2 H5 (by omega) (by omega) ⟨by rw [comes_fits]; exact co, fy⟩ no (fold_strip hwd FU FT) (((s12.trans s3).trans s4).trans s5) ch
  · rintro σ H3 ⟨v6, v7, rfl, s3, no⟩
    have e : ((512 + 1 : Int) - 1).toNat = 512 := rfl
    rw [e] at no
    exact qn (fun L z1 z2 => no L z1 (by omega)) H3 (s12.trans s3)
/-! ### found -/
theorem found_low {h kind : Int} {t : List Int} (bt : bytesOk t) (c : readM h t < 0) : PyWqbbch.found h kind t = [readM h t] := by
  unfold readM
  unfold readM at c
  by_cases d : 66048 < t.length
  · rw [if_pos d, found_long d]
  · rw [if_neg d]
    rw [if_neg d] at c
    cases e : parse t with
    | none => exact found_wrong bt d e
    | some R =>
      simp only
      rw [e] at c
      simp only at c
      cases z : rugOk R h with
      | true =>
        rw [if_pos z] at c
        exact absurd c (by decide)
      | false =>
        rw [if_neg (by decide)]
        exact found_bad d e z
def spFound (K : PySem.W.Frag) : Sp := fun vs H Q _ => ∃ (h kind : Int) (a : Addr) (t : List Int), vs = [.int h, .int kind, .ref a] ∧ 0 ≤ h ∧ 0 ≤ kind ∧ SqL K H a (t.map V.int) ∧ bytesOk t ∧ ∀ p H', H' p = some (.lst ((PyWqbbch.found h kind t).map V.int)) → Q (.ref p) H'
theorem scFound : FnScope ["h", "kind", "t", "read"] ["h", "kind", "t"] (defScope sFound) := ⟨rfl, rfl, rfl, by decide +kernel, rfl, by decide +kernel, by decide +kernel⟩
theorem ok_found {t2 : Tok} {fL fT fG : Addr} {dL dT dG : FuncData} (F : Fun K "found" "found" sFound f fd) (mR : mg "RUN" = some (.int 2 t2)) (L : Defs K P w mg base 5 "read_rug" ["h", "t"] (spRead K) fL dL)
    (T : Defs K P w mg base 3 "told_if_any" ["chart"] spTia fT dT) (G : Defs K P w mg base 4 "shortest_strip" ["kind", "h", "rug"] spShort fG dG) :
    FnOk P w K mg base CX0 6 f fd ["h", "kind", "t"] (spFound K) := by
  refine F.ok scFound (fun vs H Q E h => ?_) (fun cdv A outer s H vs Q E hr h => ?_)
  · obtain ⟨h, k, a, t, rfl, _⟩ := h
    rfl
  obtain ⟨h, kind, a, t, rfl, h0, k0, ht, bt, q⟩ := h
  have hr3 : Room 3 _ := hr.mono (by decide)
  have hr4 : Room 4 _ := hr.mono (by decide)
  refine ⟨_, pss_cons (ps_set (i := 3) scFound.nd rfl (.inl rfl) (pe_call L.G hr rfl L.m L.kp L.b .nil pass0 (pn 0 (pn 2 pa_nil))))
    (pss_cons (ps_if (pt_cmpR op_lt (pe_ix ix_tup (pv 3) pe_int (fun _ _ => rfl)) pe_int (nomark _)) (pss_one (ps_ret (pe_lst (pa_cons (pe_ix ix_tup (pv 3) pe_int (fun _ _ => rfl)) pa_nil)))) pss_nil)
    (pss_cons (ps_if (pt_cmpR op_gt (pv 1) (pe_gi rfl mR) (nomark _)) (pss_one (ps_ret (pe_lst (pa_cons (pe_un un_neg pe_int) pa_nil)))) pss_nil)
    (pss_one (ps_ret (pe_call T.G hr3 rfl T.m T.kp T.b .nil pass0 (pa_cons (pe_call G.G hr4 rfl G.m G.kp G.b .nil pass0 (pn 1 (pn 0 (pa_cons (pe_ix ix_tup (pv 3) pe_int (fun _ _ => rfl)) pa_nil)))) pa_nil)))))), ?_⟩
  have one : (1 : Nat) ≤ sizeLine := by decide
  refine ⟨_, rfl, _, rfl, h, a, t, rfl, ht, fun pr H1 x s1 tp as => ?_⟩
  refine ⟨_, rfl, pr, _, _, _, rfl, rfl, SqT.of tp, at_zero _ _, _, _, rfl, rfl, _, rfl, ?_⟩
  rcases readM_low (h := h) (t := t) with c | c
  · rw [decide_eq_true c]
    rw [found_low bt c] at q
    exact iteT ⟨_, rfl, pr, _, _, _, rfl, rfl, SqT.of tp, at_zero _ _, one, fun p hp => q p _ upd_same⟩
  rw [decide_eq_false (by omega)]
  refine iteF ?_
  obtain ⟨R, p1, c1, e1, d, rfl, ch1⟩ := as c
  have iR := parse_chart e1
  refine ⟨_, rfl, _, _, rfl, rfl, _, rfl, ?_⟩
  by_cases k2 : kind ≤ 2
  rotate_left
  · rw [decide_eq_true (show (2 : Int) < kind by omega)]
    rw [found_kind c1 e1 k2] at q
    exact iteT ⟨_, rfl, one, fun p hp => q p _ upd_same⟩
  rw [decide_eq_false (show ¬ (2 : Int) < kind by omega)]
  refine iteF ?_
  obtain ⟨h, rfl⟩ : ∃ n : Nat, h = n := ⟨h.toNat, by omega⟩
  have d' := d
  simp only [rugOk, Bool.and_eq_true, decide_eq_true_eq] at d'
  have ow : 2 * h < wideOf R := by omega
  have ov : 2 * h < R.length := by omega
  have hn : ((h : Nat) : Int).toNat = h := Int.toNat_natCast h
  refine ⟨_, rfl, _, rfl, _, rfl, pr, _, _, _, rfl, rfl, SqT.of tp, at_one _ _ _, kind, h, p1, R, rfl, ch1, iR, k0, k2, by omega, by omega, ow, ov, fun no H2 s2 => ?_, fun N S p2 H2 n1 n2 mk le st s2 ch2 => ?_⟩
  · refine .inl ⟨rfl, fun p H3 _ e3 => q p H3 ?_⟩
    rw [found_no c1 e1 d k0 k2 (by rw [hn]; exact no)]
    exact e3
  · refine .inr ⟨p2, S, rfl, ch2, ?_, fun p H3 _ e3 => q p H3 ?_⟩
    · rw [flat_len S N st.wide, st.high]
      exact Nat.le_trans (Nat.mul_le_mul (show h ≤ 128 by omega) (show N + 1 ≤ 513 by omega)) (by decide)
    · rw [found_yes c1 e1 d k0 k2 n1 n2 (by rw [hn]; exact mk) (by rw [hn]; exact le) (by rw [hn]; exact st)]
      exact e3
end
theorem bytes_of {l : List Int} (h : l.all (Codec.inInt 0 255) = true) : bytesOk l := fun b hb => Codec.inInt_iff.mp (List.all_eq_true.mp h b hb)
/-- the request and the answer -/
theorem request {K : PySem.W.Frag} {H : Hp} {xs : List V} {a : Codec.denoteAll PySem.Challenge.rw_rugborders_s05_found.args} (hwi : Codec.withinAll PySem.Challenge.rw_rugborders_s05_found.args a = true) (hx : DwAll K H xs (Codec.encAll PySem.Challenge.rw_rugborders_s05_found.args a)) :
    spFound K xs H (fun v H' => Dw K H' v (PySem.Challenge.rw_rugborders_s05_found.ret.enc (Codec.app PySem.Challenge.rw_rugborders_s05_found.args PySem.Challenge.rw_rugborders_s05_found.f a))) (fun _ _ _ => False) := by
  obtain ⟨h, kind, t, u⟩ := a
  have q : (Codec.inInt 0 4294967295 h && (Codec.inInt 0 4294967295 kind && ((Codec.inLen 0 70000 t && t.all (Codec.inInt 0 255)) && true))) = true := hwi
  simp only [Bool.and_eq_true] at q
  obtain ⟨q1, q3, ⟨_, q2⟩, _⟩ := q
  cases hx with
  | cons h1 hx =>
  cases hx with
  | cons h3 hx =>
  cases hx with
  | cons h2 hx =>
  cases hx
  cases h1
  cases h3
  cases h2 with
  | lst s2 a2 =>
  have e2 := ints_dw t _ a2
  subst e2
  exact ⟨h, kind, _, t, rfl, (Codec.inInt_iff.mp q1).1, (Codec.inInt_iff.mp q3).1, s2, bytes_of q2, fun p H' hp => .lst (SqL.of hp) (dw_ints _)⟩
theorem all_mk {P : Program} {w : World} {K : PySem.W.Frag} {h : Heap} {mg : Str → Option Value} {fa f0 f1 f2 f3 f4 f5 f6 f7 f8 f9 f10 f11 f12 f13 f14 f15 f16 f17 f18 f19 f20 f21 : Addr} (X : K.In h) (G : h.Ns mainGlobals mg) (hfa : mg "found" = some (.ref fa))
    {od0 an0 od1 an1 od2 an2 od3 an3 od4 an4 od5 an5 od6 an6 od7 an7 od8 an8 od9 an9 od10 an10 od11 an11 od12 an12 od13 an13 od14 an14 od15 an15 od16 an16 od17 an17 od18 an18 od19 an19 od20 an20 od21 an21 : Option Addr} {sl0 sl1 sl2 sl3 sl4 sl5 sl6 sl7 sl8 sl9 sl10 sl11 sl12 sl13 sl14 sl15 sl16 sl17 sl18 sl19 sl20 sl21 : Array (Option Value)} {oc0 kV0 dc0 pm0 cd0 ct0 oc1 kV1 dc1 pm1 cd1 ct1 oc2 kV2 dc2 pm2 cd2 ct2 oc3 kV3 dc3 pm3 cd3 ct3 oc4 kV4 dc4 pm4 cd4 ct4 oc5 kV5 dc5 pm5 cd5 ct5 oc6 kV6 dc6 pm6 cd6 ct6 oc7 kV7 dc7 pm7 cd7 ct7 oc8 kV8 dc8 pm8 cd8 ct8 oc9 kV9 dc9 pm9 cd9 ct9 oc10 kV10 dc10 pm10 cd10 ct10 oc11 kV11 dc11 pm11 cd11 ct11 oc12 kV12 dc12 pm12 cd12 ct12 oc13 kV13 dc13 pm13 cd13 ct13 oc14 kV14 dc14 pm14 cd14 ct14 oc15 kV15 dc15 pm15 cd15 ct15 oc16 kV16 dc16 pm16 cd16 ct16 oc17 kV17 dc17 pm17 cd17 ct17 oc18 kV18 dc18 pm18 cd18 ct18 oc19 kV19 dc19 pm19 cd19 ct19 oc20 kV20 dc20 pm20 cd20 ct20 oc21 kV21 dc21 pm21 cd21 ct21 : Value} {t0 t1 t2 t3 t4 t5 t6 t7 t8 t9 t10 t11 : Tok}
    (a0 : PySem.W.nsIn K mainGlobals "is_too_long" = some (some (.ref f0))) (l0 : K.lookup f0 = some ⟨oc0, od0, .func (PySem.W.fnOf "is_too_long" "is_too_long" (defArgs sLong) (defBody sLong) (defScope sLong) .none kV0 dc0 pm0 an0 cd0 ct0), sl0⟩) (c0 : PySem.W.codeIn K cd0 "is_too_long" = true) (k0 : PySem.W.keepIn K (.ref f0) = true)
    (a1 : PySem.W.nsIn K mainGlobals "is_colour" = some (some (.ref f1))) (l1 : K.lookup f1 = some ⟨oc1, od1, .func (PySem.W.fnOf "is_colour" "is_colour" (defArgs sCol) (defBody sCol) (defScope sCol) .none kV1 dc1 pm1 an1 cd1 ct1), sl1⟩) (c1 : PySem.W.codeIn K cd1 "is_colour" = true) (k1 : PySem.W.keepIn K (.ref f1) = true)
    (a2 : PySem.W.nsIn K mainGlobals "is_side" = some (some (.ref f2))) (l2 : K.lookup f2 = some ⟨oc2, od2, .func (PySem.W.fnOf "is_side" "is_side" (defArgs sSide) (defBody sSide) (defScope sSide) .none kV2 dc2 pm2 an2 cd2 ct2), sl2⟩) (c2 : PySem.W.codeIn K cd2 "is_side" = true) (k2 : PySem.W.keepIn K (.ref f2) = true)
    (a3 : PySem.W.nsIn K mainGlobals "is_chart_size" = some (some (.ref f3))) (l3 : K.lookup f3 = some ⟨oc3, od3, .func (PySem.W.fnOf "is_chart_size" "is_chart_size" (defArgs sSize) (defBody sSize) (defScope sSize) .none kV3 dc3 pm3 an3 cd3 ct3), sl3⟩) (c3 : PySem.W.codeIn K cd3 "is_chart_size" = true) (k3 : PySem.W.keepIn K (.ref f3) = true)
    (a4 : PySem.W.nsIn K mainGlobals "is_chart" = some (some (.ref f4))) (l4 : K.lookup f4 = some ⟨oc4, od4, .func (PySem.W.fnOf "is_chart" "is_chart" (defArgs sIsCh) (defBody sIsCh) (defScope sIsCh) .none kV4 dc4 pm4 an4 cd4 ct4), sl4⟩) (c4 : PySem.W.codeIn K cd4 "is_chart" = true) (k4 : PySem.W.keepIn K (.ref f4) = true)
    (a5 : PySem.W.nsIn K mainGlobals "chart_of" = some (some (.ref f5))) (l5 : K.lookup f5 = some ⟨oc5, od5, .func (PySem.W.fnOf "chart_of" "chart_of" (defArgs sChart) (defBody sChart) (defScope sChart) .none kV5 dc5 pm5 an5 cd5 ct5), sl5⟩) (c5 : PySem.W.codeIn K cd5 "chart_of" = true) (k5 : PySem.W.keepIn K (.ref f5) = true)
    (a6 : PySem.W.nsIn K mainGlobals "is_depth" = some (some (.ref f6))) (l6 : K.lookup f6 = some ⟨oc6, od6, .func (PySem.W.fnOf "is_depth" "is_depth" (defArgs sDep) (defBody sDep) (defScope sDep) .none kV6 dc6 pm6 an6 cd6 ct6), sl6⟩) (c6 : PySem.W.codeIn K cd6 "is_depth" = true) (k6 : PySem.W.keepIn K (.ref f6) = true)
    (a7 : PySem.W.nsIn K mainGlobals "leaves_field" = some (some (.ref f7))) (l7 : K.lookup f7 = some ⟨oc7, od7, .func (PySem.W.fnOf "leaves_field" "leaves_field" (defArgs sLeaves) (defBody sLeaves) (defScope sLeaves) .none kV7 dc7 pm7 an7 cd7 ct7), sl7⟩) (c7 : PySem.W.codeIn K cd7 "leaves_field" = true) (k7 : PySem.W.keepIn K (.ref f7) = true)
    (a8 : PySem.W.nsIn K mainGlobals "read_rug" = some (some (.ref f8))) (l8 : K.lookup f8 = some ⟨oc8, od8, .func (PySem.W.fnOf "read_rug" "read_rug" (defArgs sRead) (defBody sRead) (defScope sRead) .none kV8 dc8 pm8 an8 cd8 ct8), sl8⟩) (c8 : PySem.W.codeIn K cd8 "read_rug" = true) (k8 : PySem.W.keepIn K (.ref f8) = true)
    (a9 : PySem.W.nsIn K mainGlobals "text_of" = some (some (.ref f9))) (l9 : K.lookup f9 = some ⟨oc9, od9, .func (PySem.W.fnOf "text_of" "text_of" (defArgs sText) (defBody sText) (defScope sText) .none kV9 dc9 pm9 an9 cd9 ct9), sl9⟩) (c9 : PySem.W.codeIn K cd9 "text_of" = true) (k9 : PySem.W.keepIn K (.ref f9) = true)
    (a10 : PySem.W.nsIn K mainGlobals "told_text" = some (some (.ref f10))) (l10 : K.lookup f10 = some ⟨oc10, od10, .func (PySem.W.fnOf "told_text" "told_text" (defArgs sTold) (defBody sTold) (defScope sTold) .none kV10 dc10 pm10 an10 cd10 ct10), sl10⟩) (c10 : PySem.W.codeIn K cd10 "told_text" = true) (k10 : PySem.W.keepIn K (.ref f10) = true)
    (a11 : PySem.W.nsIn K mainGlobals "told_if_any" = some (some (.ref f11))) (l11 : K.lookup f11 = some ⟨oc11, od11, .func (PySem.W.fnOf "told_if_any" "told_if_any" (defArgs sTia) (defBody sTia) (defScope sTia) .none kV11 dc11 pm11 an11 cd11 ct11), sl11⟩) (c11 : PySem.W.codeIn K cd11 "told_if_any" = true) (k11 : PySem.W.keepIn K (.ref f11) = true)
    (a12 : PySem.W.nsIn K mainGlobals "seen_from_side" = some (some (.ref f12))) (l12 : K.lookup f12 = some ⟨oc12, od12, .func (PySem.W.fnOf "seen_from_side" "seen_from_side" (defArgs sSeen) (defBody sSeen) (defScope sSeen) .none kV12 dc12 pm12 an12 cd12 ct12), sl12⟩) (c12 : PySem.W.codeIn K cd12 "seen_from_side" = true) (k12 : PySem.W.keepIn K (.ref f12) = true)
    (a13 : PySem.W.nsIn K mainGlobals "knot_of" = some (some (.ref f13))) (l13 : K.lookup f13 = some ⟨oc13, od13, .func (PySem.W.fnOf "knot_of" "knot_of" (defArgs sKnot) (defBody sKnot) (defScope sKnot) .none kV13 dc13 pm13 an13 cd13 ct13), sl13⟩) (c13 : PySem.W.codeIn K cd13 "knot_of" = true) (k13 : PySem.W.keepIn K (.ref f13) = true)
    (a14 : PySem.W.nsIn K mainGlobals "takes_colour" = some (some (.ref f14))) (l14 : K.lookup f14 = some ⟨oc14, od14, .func (PySem.W.fnOf "takes_colour" "takes_colour" (defArgs sTake) (defBody sTake) (defScope sTake) .none kV14 dc14 pm14 an14 cd14 ct14), sl14⟩) (c14 : PySem.W.codeIn K cd14 "takes_colour" = true) (k14 : PySem.W.keepIn K (.ref f14) = true)
    (a15 : PySem.W.nsIn K mainGlobals "gathered" = some (some (.ref f15))) (l15 : K.lookup f15 = some ⟨oc15, od15, .func (PySem.W.fnOf "gathered" "gathered" (defArgs sGath) (defBody sGath) (defScope sGath) .none kV15 dc15 pm15 an15 cd15 ct15), sl15⟩) (c15 : PySem.W.codeIn K cd15 "gathered" = true) (k15 : PySem.W.keepIn K (.ref f15) = true)
    (a16 : PySem.W.nsIn K mainGlobals "comes_out_along" = some (some (.ref f16))) (l16 : K.lookup f16 = some ⟨oc16, od16, .func (PySem.W.fnOf "comes_out_along" "comes_out_along" (defArgs sAlong) (defBody sAlong) (defScope sAlong) .none kV16 dc16 pm16 an16 cd16 ct16), sl16⟩) (c16 : PySem.W.codeIn K cd16 "comes_out_along" = true) (k16 : PySem.W.keepIn K (.ref f16) = true)
    (a17 : PySem.W.nsIn K mainGlobals "comes_out" = some (some (.ref f17))) (l17 : K.lookup f17 = some ⟨oc17, od17, .func (PySem.W.fnOf "comes_out" "comes_out" (defArgs sOut) (defBody sOut) (defScope sOut) .none kV17 dc17 pm17 an17 cd17 ct17), sl17⟩) (c17 : PySem.W.codeIn K cd17 "comes_out" = true) (k17 : PySem.W.keepIn K (.ref f17) = true)
    (a18 : PySem.W.nsIn K mainGlobals "folded" = some (some (.ref f18))) (l18 : K.lookup f18 = some ⟨oc18, od18, .func (PySem.W.fnOf "folded" "folded" (defArgs sFold) (defBody sFold) (defScope sFold) .none kV18 dc18 pm18 an18 cd18 ct18), sl18⟩) (c18 : PySem.W.codeIn K cd18 "folded" = true) (k18 : PySem.W.keepIn K (.ref f18) = true)
    (a19 : PySem.W.nsIn K mainGlobals "all_coloured" = some (some (.ref f19))) (l19 : K.lookup f19 = some ⟨oc19, od19, .func (PySem.W.fnOf "all_coloured" "all_coloured" (defArgs sAllC) (defBody sAllC) (defScope sAllC) .none kV19 dc19 pm19 an19 cd19 ct19), sl19⟩) (c19 : PySem.W.codeIn K cd19 "all_coloured" = true) (k19 : PySem.W.keepIn K (.ref f19) = true)
    (a20 : PySem.W.nsIn K mainGlobals "shortest_strip" = some (some (.ref f20))) (l20 : K.lookup f20 = some ⟨oc20, od20, .func (PySem.W.fnOf "shortest_strip" "shortest_strip" (defArgs sShort) (defBody sShort) (defScope sShort) .none kV20 dc20 pm20 an20 cd20 ct20), sl20⟩) (c20 : PySem.W.codeIn K cd20 "shortest_strip" = true) (k20 : PySem.W.keepIn K (.ref f20) = true)
    (a21 : PySem.W.nsIn K mainGlobals "found" = some (some (.ref f21))) (l21 : K.lookup f21 = some ⟨oc21, od21, .func (PySem.W.fnOf "found" "found" (defArgs sFound) (defBody sFound) (defScope sFound) .none kV21 dc21 pm21 an21 cd21 ct21), sl21⟩) (c21 : PySem.W.codeIn K cd21 "found" = true) (k21 : PySem.W.keepIn K (.ref f21) = true)
    (u0 : PySem.W.nsIn K mainGlobals "ROW_END" = some (some (.int 10 t0)))
    (u1 : PySem.W.nsIn K mainGlobals "FIRST_COLOUR" = some (some (.int 97 t1)))
    (u2 : PySem.W.nsIn K mainGlobals "MOST_SIDE" = some (some (.int 512 t2)))
    (u3 : PySem.W.nsIn K mainGlobals "MOST_KNOTS" = some (some (.int 65536 t3)))
    (u4 : PySem.W.nsIn K mainGlobals "MOST_BYTES" = some (some (.int 66048 t4)))
    (u5 : PySem.W.nsIn K mainGlobals "SET" = some (some (.int 0 t5)))
    (u6 : PySem.W.nsIn K mainGlobals "MET" = some (some (.int 1 t6)))
    (u7 : PySem.W.nsIn K mainGlobals "RUN" = some (some (.int 2 t7)))
    (u8 : PySem.W.nsIn K mainGlobals "MOST_DEPTH" = some (some (.int 128 t8)))
    (u9 : PySem.W.nsIn K mainGlobals "OF_FIELD" = some (some (.int 0 t9)))
    (u10 : PySem.W.nsIn K mainGlobals "OF_STRIP" = some (some (.int 1 t10)))
    (u11 : PySem.W.nsIn K mainGlobals "OF_CORNER" = some (some (.int 2 t11)))
    (z0 : PySem.W.nsIn K mainGlobals "enumerate" = some none)
    (z1 : PySem.W.nsIn K mainGlobals "len" = some none)
    (z2 : PySem.W.nsIn K mainGlobals "max" = some none)
    (z3 : PySem.W.nsIn K mainGlobals "min" = some none)
    (z4 : PySem.W.nsIn K mainGlobals "range" = some none) :
    ∃ fd : FuncData, (∀ (s : Shared) (us : List Value), us.length = (["h", "kind", "t"] : List Str).length → BindsTo s fd ⟨us, []⟩ ((["h", "kind", "t"] : List Str).zip us)) ∧ ∀ base : Heap, K.In base → base.Ns mainGlobals mg → FnOk P w K mg base CX0 6 fa fd ["h", "kind", "t"] (spFound K) := by
  have e := hfa.symm.trans (PySem.W.mg_of X G a21)
  cases e
  have F0 := fun_mk (st := sLong) l0 c0 k0
  have m0 := PySem.W.mg_of X G a0
  have F1 := fun_mk (st := sCol) l1 c1 k1
  have m1 := PySem.W.mg_of X G a1
  have F2 := fun_mk (st := sSide) l2 c2 k2
  have m2 := PySem.W.mg_of X G a2
  have F3 := fun_mk (st := sSize) l3 c3 k3
  have m3 := PySem.W.mg_of X G a3
  have F4 := fun_mk (st := sIsCh) l4 c4 k4
  have m4 := PySem.W.mg_of X G a4
  have F5 := fun_mk (st := sChart) l5 c5 k5
  have m5 := PySem.W.mg_of X G a5
  have F6 := fun_mk (st := sDep) l6 c6 k6
  have m6 := PySem.W.mg_of X G a6
  have F7 := fun_mk (st := sLeaves) l7 c7 k7
  have m7 := PySem.W.mg_of X G a7
  have F8 := fun_mk (st := sRead) l8 c8 k8
  have m8 := PySem.W.mg_of X G a8
  have F9 := fun_mk (st := sText) l9 c9 k9
  have m9 := PySem.W.mg_of X G a9
  have F10 := fun_mk (st := sTold) l10 c10 k10
  have m10 := PySem.W.mg_of X G a10
  have F11 := fun_mk (st := sTia) l11 c11 k11
  have m11 := PySem.W.mg_of X G a11
  have F12 := fun_mk (st := sSeen) l12 c12 k12
  have m12 := PySem.W.mg_of X G a12
  have F13 := fun_mk (st := sKnot) l13 c13 k13
  have m13 := PySem.W.mg_of X G a13
  have F14 := fun_mk (st := sTake) l14 c14 k14
  have m14 := PySem.W.mg_of X G a14
  have F15 := fun_mk (st := sGath) l15 c15 k15
  have m15 := PySem.W.mg_of X G a15
  have F16 := fun_mk (st := sAlong) l16 c16 k16
  have m16 := PySem.W.mg_of X G a16
  have F17 := fun_mk (st := sOut) l17 c17 k17
  have m17 := PySem.W.mg_of X G a17
  have F18 := fun_mk (st := sFold) l18 c18 k18
  have m18 := PySem.W.mg_of X G a18
  have F19 := fun_mk (st := sAllC) l19 c19 k19
  have m19 := PySem.W.mg_of X G a19
  have F20 := fun_mk (st := sShort) l20 c20 k20
  have m20 := PySem.W.mg_of X G a20
  have F21 := fun_mk (st := sFound) l21 c21 k21
  have m21 := PySem.W.mg_of X G a21
  have v_ROW_END := PySem.W.mg_of X G u0
  have v_FIRST_COLOUR := PySem.W.mg_of X G u1
  have v_MOST_SIDE := PySem.W.mg_of X G u2
  have v_MOST_KNOTS := PySem.W.mg_of X G u3
  have v_MOST_BYTES := PySem.W.mg_of X G u4
  have v_SET := PySem.W.mg_of X G u5
  have v_MET := PySem.W.mg_of X G u6
  have v_RUN := PySem.W.mg_of X G u7
  have v_MOST_DEPTH := PySem.W.mg_of X G u8
  have v_OF_FIELD := PySem.W.mg_of X G u9
  have v_OF_STRIP := PySem.W.mg_of X G u10
  have v_OF_CORNER := PySem.W.mg_of X G u11
  have n_enumerate := PySem.W.mg_none_of X G z0
  have n_len := PySem.W.mg_none_of X G z1
  have n_max := PySem.W.mg_none_of X G z2
  have n_min := PySem.W.mg_none_of X G z3
  have n_range := PySem.W.mg_none_of X G z4
  refine ⟨PySem.W.fnOf "found" "found" (defArgs sFound) (defBody sFound) (defScope sFound) .none kV21 dc21 pm21 an21 cd21 ct21, fun s us hu => match us, hu with | [_, _, _], _ => .of_eq rfl, fun base _ _ => ?_⟩
  have b0 := F0.binds (ps := ["text"]) fun _ _ _ _ _ _ us hl => match us, hl with | [_], _ => rfl
  have b1 := F1.binds (ps := ["byte"]) fun _ _ _ _ _ _ us hl => match us, hl with | [_], _ => rfl
  have b2 := F2.binds (ps := ["number"]) fun _ _ _ _ _ _ us hl => match us, hl with | [_], _ => rfl
  have b3 := F3.binds (ps := ["width", "height"]) fun _ _ _ _ _ _ us hl => match us, hl with | [_, _], _ => rfl
  have b4 := F4.binds (ps := ["rows"]) fun _ _ _ _ _ _ us hl => match us, hl with | [_], _ => rfl
  have b5 := F5.binds (ps := ["text"]) fun _ _ _ _ _ _ us hl => match us, hl with | [_], _ => rfl
  have b6 := F6.binds (ps := ["h"]) fun _ _ _ _ _ _ us hl => match us, hl with | [_], _ => rfl
  have b7 := F7.binds (ps := ["h", "rug"]) fun _ _ _ _ _ _ us hl => match us, hl with | [_, _], _ => rfl
  have b8 := F8.binds (ps := ["h", "t"]) fun _ _ _ _ _ _ us hl => match us, hl with | [_, _], _ => rfl
  have b9 := F9.binds (ps := ["chart"]) fun _ _ _ _ _ _ us hl => match us, hl with | [_], _ => rfl
  have b10 := F10.binds (ps := ["chart"]) fun _ _ _ _ _ _ us hl => match us, hl with | [_], _ => rfl
  have b11 := F11.binds (ps := ["chart"]) fun _ _ _ _ _ _ us hl => match us, hl with | [_], _ => rfl
  have b12 := F12.binds (ps := ["h", "W", "H", "x", "y"]) fun _ _ _ _ _ _ us hl => match us, hl with | [_, _, _, _, _], _ => rfl
  have b13 := F13.binds (ps := ["kind", "L", "h", "W", "H", "x", "y"]) fun _ _ _ _ _ _ us hl => match us, hl with | [_, _, _, _, _, _, _], _ => rfl
  have b14 := F14.binds (ps := ["row", "x", "colour"]) fun _ _ _ _ _ _ us hl => match us, hl with | [_, _, _], _ => rfl
  have b15 := F15.binds (ps := ["source", "width", "kind", "h", "rug"]) fun _ _ _ _ _ _ us hl => match us, hl with | [_, _, _, _, _], _ => rfl
  have b16 := F16.binds (ps := ["kind", "L", "h", "side"]) fun _ _ _ _ _ _ us hl => match us, hl with | [_, _, _, _], _ => rfl
  have b17 := F17.binds (ps := ["kind", "L", "h", "W", "H"]) fun _ _ _ _ _ _ us hl => match us, hl with | [_, _, _, _, _], _ => rfl
  have b18 := F18.binds (ps := ["L", "unwound"]) fun _ _ _ _ _ _ us hl => match us, hl with | [_, _], _ => rfl
  have b19 := F19.binds (ps := ["strip"]) fun _ _ _ _ _ _ us hl => match us, hl with | [_], _ => rfl
  have b20 := F20.binds (ps := ["kind", "h", "rug"]) fun _ _ _ _ _ _ us hl => match us, hl with | [_, _, _], _ => rfl
  have D0 : Defs K P w mg base _ "is_too_long" _ _ _ _ := ⟨ok_long (P := P) (w := w) (base := base) F0 n_len v_MOST_BYTES, b0, k0, m0⟩
  have D1 : Defs K P w mg base _ "is_colour" _ _ _ _ := ⟨ok_col (P := P) (w := w) (base := base) F1 , b1, k1, m1⟩
  have D2 : Defs K P w mg base _ "is_side" _ _ _ _ := ⟨ok_side (P := P) (w := w) (base := base) F2 v_MOST_SIDE, b2, k2, m2⟩
  have D3 : Defs K P w mg base _ "is_chart_size" _ _ _ _ := ⟨ok_size (P := P) (w := w) (base := base) F3 D2.G b2 k2 m2 v_MOST_KNOTS, b3, k3, m3⟩
  have D4 : Defs K P w mg base _ "is_chart" _ _ _ _ := ⟨ok_isCh (P := P) (w := w) (base := base) F4 D3.G b3 k3 m3 n_len, b4, k4, m4⟩
  have D5 : Defs K P w mg base _ "chart_of" _ _ _ _ := ⟨ok_chart (P := P) (w := w) (base := base) F5 D1.G b1 k1 m1 D4.G b4 k4 m4 v_ROW_END, b5, k5, m5⟩
  have D6 : Defs K P w mg base _ "is_depth" _ _ _ _ := ⟨ok_dep (P := P) (w := w) (base := base) F6 v_MOST_DEPTH, b6, k6, m6⟩
  have D7 : Defs K P w mg base _ "leaves_field" _ _ _ _ := ⟨ok_leaves (P := P) (w := w) (base := base) F7 n_len D6, b7, k7, m7⟩
  have D8 : Defs K P w mg base _ "read_rug" _ _ _ _ := ⟨ok_read (P := P) (w := w) (base := base) F8 D0 D5 D7, b8, k8, m8⟩
  have D9 : Defs K P w mg base _ "text_of" _ _ _ _ := ⟨ok_text (P := P) (w := w) (base := base) F9 v_ROW_END, b9, k9, m9⟩
  have D10 : Defs K P w mg base _ "told_text" _ _ _ _ := ⟨ok_told (P := P) (w := w) (base := base) F10 n_len D9, b10, k10, m10⟩
  have D11 : Defs K P w mg base _ "told_if_any" _ _ _ _ := ⟨ok_tia (P := P) (w := w) (base := base) F11 D10, b11, k11, m11⟩
  have D12 : Defs K P w mg base _ "seen_from_side" _ _ _ _ := ⟨ok_seen (P := P) (w := w) (base := base) F12 , b12, k12, m12⟩
  have D13 : Defs K P w mg base _ "knot_of" _ _ _ _ := ⟨ok_knot (P := P) (w := w) (base := base) F13 D12 v_OF_FIELD v_OF_STRIP v_OF_CORNER v_MET v_RUN n_min n_max, b13, k13, m13⟩
  have D14 : Defs K P w mg base _ "takes_colour" _ _ _ _ := ⟨ok_take (P := P) (w := w) (base := base) F14 , b14, k14, m14⟩
  have D15 : Defs K P w mg base _ "gathered" _ _ _ _ := ⟨ok_gath (P := P) (w := w) (base := base) F15 n_len n_range n_enumerate D13 D14, b15, k15, m15⟩
  have D16 : Defs K P w mg base _ "comes_out_along" _ _ _ _ := ⟨ok_along (P := P) (w := w) (base := base) F16 v_SET v_MET, b16, k16, m16⟩
  have D17 : Defs K P w mg base _ "comes_out" _ _ _ _ := ⟨ok_out (P := P) (w := w) (base := base) F17 D16, b17, k17, m17⟩
  have D18 : Defs K P w mg base _ "folded" _ _ _ _ := ⟨ok_fold (P := P) (w := w) (base := base) F18 n_enumerate D14, b18, k18, m18⟩
  have D19 : Defs K P w mg base _ "all_coloured" _ _ _ _ := ⟨ok_allC (P := P) (w := w) (base := base) F19 v_FIRST_COLOUR, b19, k19, m19⟩
  have D20 : Defs K P w mg base _ "shortest_strip" _ _ _ _ := ⟨ok_short (P := P) (w := w) (base := base) F20 n_len n_range n_max v_SET v_OF_STRIP v_OF_CORNER v_MOST_SIDE D15 D17 D18 D19, b20, k20, m20⟩
  exact ok_found F21 v_RUN D8 D11 D20
end RH
open PySem PySem.W PyProof.Rows
set_option maxRecDepth 100000 in
set_option maxHeartbeats 8000000 in
theorem PySem.Challenge.cw_rugborders_s05_found_holds : PySem.Challenge.rw_rugborders_s05_found.Holds := by
  w_on; k_headS; (case hw => exact ⟨[.int 0, .int 0, .list []], by decide +kernel, by decide +kernel⟩)
  k_fillS
  refine L2.walk_specK (r := PySem.Challenge.rw_rugborders_s05_found) (k := 6) (CX := L2.CX0) (ps := ["h", "kind", "t"]) (sp := RH.spFound) (by decide +kernel) rfl rfl ⟨rfl, by decide, by decide⟩ (fun w h Y => PySem.W.kIn_of Y) ?F ?S (fun _ _ _ _ z => z)
  case F =>
    intro w mg fa h Y KX G hmg
    refine' RH.all_mk KX G hmg ?a0 ?l0 ?c0 ?k0 ?a1 ?l1 ?c1 ?k1 ?a2 ?l2 ?c2 ?k2 ?a3 ?l3 ?c3 ?k3 ?a4 ?l4 ?c4 ?k4 ?a5 ?l5 ?c5 ?k5 ?a6 ?l6 ?c6 ?k6 ?a7 ?l7 ?c7 ?k7 ?a8 ?l8 ?c8 ?k8 ?a9 ?l9 ?c9 ?k9 ?a10 ?l10 ?c10 ?k10 ?a11 ?l11 ?c11 ?k11 ?a12 ?l12 ?c12 ?k12 ?a13 ?l13 ?c13 ?k13 ?a14 ?l14 ?c14 ?k14 ?a15 ?l15 ?c15 ?k15 ?a16 ?l16 ?c16 ?k16 ?a17 ?l17 ?c17 ?k17 ?a18 ?l18 ?c18 ?k18 ?a19 ?l19 ?c19 ?k19 ?a20 ?l20 ?c20 ?k20 ?a21 ?l21 ?c21 ?k21 ?u0 ?u1 ?u2 ?u3 ?u4 ?u5 ?u6 ?u7 ?u8 ?u9 ?u10 ?u11 ?z0 ?z1 ?z2 ?z3 ?z4
    (case a0 => k_is)
    (case l0 => k_is)
    (case c0 => k_is)
    (case k0 => k_is)
    (case a1 => k_is)
    (case l1 => k_is)
    (case c1 => k_is)
    (case k1 => k_is)
    (case a2 => k_is)
    (case l2 => k_is)
    (case c2 => k_is)
    (case k2 => k_is)
    (case a3 => k_is)
    (case l3 => k_is)
    (case c3 => k_is)
    (case k3 => k_is)
    (case a4 => k_is)
    (case l4 => k_is)
    (case c4 => k_is)
    (case k4 => k_is)
    (case a5 => k_is)
    (case l5 => k_is)
    (case c5 => k_is)
    (case k5 => k_is)
    (case a6 => k_is)
    (case l6 => k_is)
    (case c6 => k_is)
    (case k6 => k_is)
    (case a7 => k_is)
    (case l7 => k_is)
    (case c7 => k_is)
    (case k7 => k_is)
    (case a8 => k_is)
    (case l8 => k_is)
    (case c8 => k_is)
    (case k8 => k_is)
    (case a9 => k_is)
    (case l9 => k_is)
    (case c9 => k_is)
    (case k9 => k_is)
    (case a10 => k_is)
    (case l10 => k_is)
    (case c10 => k_is)
    (case k10 => k_is)
    (case a11 => k_is)
    (case l11 => k_is)
    (case c11 => k_is)
    (case k11 => k_is)
    (case a12 => k_is)
    (case l12 => k_is)
    (case c12 => k_is)
    (case k12 => k_is)
    (case a13 => k_is)
    (case l13 => k_is)
    (case c13 => k_is)
    (case k13 => k_is)
    (case a14 => k_is)
    (case l14 => k_is)
    (case c14 => k_is)
    (case k14 => k_is)
    (case a15 => k_is)
    (case l15 => k_is)
    (case c15 => k_is)
    (case k15 => k_is)
    (case a16 => k_is)
    (case l16 => k_is)
    (case c16 => k_is)
    (case k16 => k_is)
    (case a17 => k_is)
    (case l17 => k_is)
    (case c17 => k_is)
    (case k17 => k_is)
    (case a18 => k_is)
    (case l18 => k_is)
    (case c18 => k_is)
    (case k18 => k_is)
    (case a19 => k_is)
    (case l19 => k_is)
    (case c19 => k_is)
    (case k19 => k_is)
    (case a20 => k_is)
    (case l20 => k_is)
    (case c20 => k_is)
    (case k20 => k_is)
    (case a21 => k_is)
    (case l21 => k_is)
    (case c21 => k_is)
    (case k21 => k_is)
    (case u0 => k_is)
    (case u1 => k_is)
    (case u2 => k_is)
    (case u3 => k_is)
    (case u4 => k_is)
    (case u5 => k_is)
    (case u6 => k_is)
    (case u7 => k_is)
    (case u8 => k_is)
    (case u9 => k_is)
    (case u10 => k_is)
    (case u11 => k_is)
    (case z0 => k_is)
    (case z1 => k_is)
    (case z2 => k_is)
    (case z3 => k_is)
    (case z4 => k_is)
  case S =>
    intro K H xs a hO hwi hask hx
    exact RH.request hwi hx
