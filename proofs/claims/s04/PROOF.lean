import PyProof.Rows.All
import Wide.All
import OpenK.AllK
import Wide.FinOn
import Open.SpecLaws
import KE.OsGo
import HandS.ForSpec
import HandS.Flow
import HandS.Comp
import HandS.Iter
import HandS.Walk
import PySem.Challenge.RW_rugborders_s04_off
set_option Elab.async false
set_option linter.all false
set_option maxRecDepth 100000
set_option maxHeartbeats 4000000
namespace RM
open Wqbbch
/-! ### a chart's text -/
def bi (k : Nat) : Int := ((byteOf k).toNat : Int)
def encRows (rows : List (List Nat)) : List (List Int) := rows.map fun r => r.map bi
def enc (c : Chart) : List (List Int) := encRows c.rows
def flat (rows : List (List Int)) : List Int := rows.flatMap fun r => r ++ [10]
def isCol (b : Int) : Bool := (decide (97 ≤ b) && decide (b ≤ 122)) || ((decide (65 ≤ b) && decide (b ≤ 90)) || (decide (48 ≤ b) && decide (b ≤ 57)))
def dec (b : Int) : Nat := ((List.range 62).find? fun k => decide (bi k = b)).getD 0
theorem bi_col : ∀ k, k < 62 → isCol (bi k) = true ∧ bi k ≠ 10 := by decide +kernel
theorem col_dec0 : ∀ n : Nat, n < 128 → isCol (n : Int) = true → dec (n : Int) < 62 ∧ bi (dec (n : Int)) = (n : Int) := by decide +kernel
theorem col_range {b : Int} (h : isCol b = true) : 48 ≤ b ∧ b ≤ 122 := by
  simp only [isCol, Bool.or_eq_true, Bool.and_eq_true, decide_eq_true_eq] at h
  omega
theorem col_dec {b : Int} (h : isCol b = true) : dec b < 62 ∧ bi (dec b) = b := by
  have r := col_range h
  have e : b = ((b.toNat : Nat) : Int) := by omega
  have q := col_dec0 b.toNat (by omega) (by rw [← e]; exact h)
  rw [← e] at q
  exact q
theorem colour_byte : ∀ k, k < 62 → colourOf (byteOf k) = some k := by decide +kernel
theorem byte_lf : ∀ k, k < 62 → byteOf k ≠ LF := by decide +kernel
/-! ### the reading loop -/
def parseGo : List Int → List (List Int) → List Int → Option (List (List Int) × List Int)
  | [], rows, row => some (rows, row)
  | b :: r, rows, row => if b = 10 then parseGo r (rows ++ [row]) [] else if isCol b = true then parseGo r rows (row ++ [b]) else none
def sizeOkI (w h : Nat) : Bool := decide (1 ≤ w) && decide (w ≤ 512) && (decide (1 ≤ h) && decide (h ≤ 512)) && decide (w * h ≤ 65536)
def wideOf (rows : List (List Int)) : Nat := (rows.headD []).length
def isChart (rows : List (List Int)) : Bool := !rows.isEmpty && rows.all (fun r => decide (r.length = wideOf rows)) && sizeOkI (wideOf rows) rows.length
def parse (ns : List Int) : Option (List (List Int)) := match parseGo ns [] [] with
  | none => none
  | some (rows, row) => if row = [] ∧ isChart rows = true then some rows else none
def allCol (r : List Int) : Prop := ∀ b ∈ r, isCol b = true
theorem parse_row : ∀ (r : List Int) (rest : List Int) (rows : List (List Int)) (row : List Int), allCol r → parseGo (r ++ 10 :: rest) rows row = parseGo rest (rows ++ [row ++ r]) []
  | [], rest, rows, row, _ => by
    show (if (10 : Int) = 10 then parseGo rest (rows ++ [row]) [] else _) = _
    rw [if_pos rfl, List.append_nil]
  | b :: r, rest, rows, row, h => by
    have hb : isCol b = true := h b (List.mem_cons_self ..)
    have nb : b ≠ 10 := by have := col_range hb; omega
    show (if b = 10 then parseGo (r ++ 10 :: rest) (rows ++ [row]) [] else if isCol b = true then parseGo (r ++ 10 :: rest) rows (row ++ [b]) else none) = _
    rw [if_neg nb, if_pos hb, parse_row r rest rows (row ++ [b]) fun x hx => h x (List.mem_cons_of_mem _ hx), List.append_assoc] <;> rfl
theorem parse_flat : ∀ (l rows : List (List Int)), (∀ r ∈ l, allCol r) → parseGo (flat l) rows [] = some (rows ++ l, [])
  | [], rows, _ => by
    show some (rows, []) = _
    rw [List.append_nil]
  | r :: l, rows, h => by
    have e : flat (r :: l) = r ++ 10 :: flat l := by simp [flat]
    rw [e, parse_row _ _ _ _ (h r (List.mem_cons_self ..)), parse_flat l _ fun x hx => h x (List.mem_cons_of_mem _ hx)]
    simp
theorem parse_inv : ∀ (ns : List Int) (rows : List (List Int)) (row : List Int) (R : List (List Int)) (q : List Int), parseGo ns rows row = some (R, q) → (∀ r ∈ rows, allCol r) → allCol row → (∀ r ∈ R, allCol r) ∧ allCol q ∧ flat R ++ q = flat rows ++ row ++ ns
  | [], rows, row, R, q, e, h1, h2 => by
    have e' : (rows, row) = (R, q) := Option.some.inj e
    cases e'
    exact ⟨h1, h2, by rw [List.append_nil]⟩
  | b :: r, rows, row, R, q, e, h1, h2 => by
    have e' : (if b = 10 then parseGo r (rows ++ [row]) [] else if isCol b = true then parseGo r rows (row ++ [b]) else none) = some (R, q) := e
    by_cases hb : b = 10
    · rw [if_pos hb] at e'
      have z := parse_inv r _ _ R q e' (by
        intro x hx
        rcases List.mem_append.mp hx with hx | hx
        · exact h1 x hx
        · rw [List.mem_singleton] at hx
          rw [hx]; exact h2) (by intro x hx; cases hx)
      refine ⟨z.1, z.2.1, z.2.2.trans ?_⟩
      subst hb
      simp [flat]
    · rw [if_neg hb] at e'
      by_cases hc : isCol b = true
      · rw [if_pos hc] at e'
        have z := parse_inv r _ _ R q e' h1 (by
          intro x hx
          rcases List.mem_append.mp hx with hx | hx
          · exact h2 x hx
          · rw [List.mem_singleton] at hx
            rw [hx]; exact hc)
        refine ⟨z.1, z.2.1, z.2.2.trans ?_⟩
        simp
      · rw [if_neg hc] at e'
        cases e'
/-! ### charts of the specification -/
theorem right_iff {c : Chart} : c.right = true ↔ (1 ≤ c.wide ∧ c.wide ≤ 512 ∧ 1 ≤ c.high ∧ c.high ≤ 512) ∧ c.wide * c.high ≤ 65536 ∧ c.rows.length = c.high ∧ ∀ r ∈ c.rows, r.length = c.wide ∧ ∀ k ∈ r, k < 62 := by
  simp only [Chart.right, sizeOk, Bool.and_eq_true, decide_eq_true_eq, List.all_eq_true]
  exact Iff.rfl
theorem cut_row : ∀ (r : List UInt8) (rest : List UInt8) (p : Nat) (w : List UInt8), (∀ b ∈ r, b ≠ LF) → cut LF p w (r ++ LF :: rest) = (p, w ++ r) :: cut LF (p + (w ++ r).length + 1) [] rest
  | [], rest, p, w, _ => by
    show (if LF = LF then _ else _) = _
    rw [if_pos rfl, List.append_nil]
  | b :: r, rest, p, w, h => by
    show (if b = LF then _ else cut LF p (w ++ [b]) (r ++ LF :: rest)) = _
    rw [if_neg (h b (List.mem_cons_self ..)), cut_row r rest p (w ++ [b]) fun x hx => h x (List.mem_cons_of_mem _ hx), List.append_assoc]
    rfl
theorem cut_text : ∀ (rows : List (List Nat)) (p : Nat), (∀ r ∈ rows, ∀ k ∈ r, k < 62) → ∃ q, (cut LF p [] (rows.flatMap fun (r : List Nat) => r.map byteOf ++ [LF])).map (fun (x : Nat × List UInt8) => x.2.map colourOf) = rows.map (fun r => r.map some) ++ [q]
  | [], p, _ => ⟨[], rfl⟩
  | r :: rows, p, h => by
    have e : ((r :: rows).flatMap fun (r : List Nat) => r.map byteOf ++ [LF]) = r.map byteOf ++ LF :: (rows.flatMap fun (r : List Nat) => r.map byteOf ++ [LF]) := by simp
    obtain ⟨q, hq⟩ := cut_text rows (p + ([] ++ r.map byteOf).length + 1) fun x hx => h x (List.mem_cons_of_mem _ hx)
    refine ⟨q, ?_⟩
    rw [e, cut_row _ _ _ _ (by
      intro b hb
      obtain ⟨k, hk, rfl⟩ := List.mem_map.mp hb
      exact byte_lf k (h r (List.mem_cons_self ..) k hk)), List.map_cons, hq]
    have z : ([] ++ r.map byteOf).map colourOf = r.map some := by
      rw [List.nil_append, List.map_map]
      exact List.map_congr_left fun k hk => colour_byte k (h r (List.mem_cons_self ..) k hk)
    show ([] ++ r.map byteOf).map colourOf :: _ = _
    rw [z] <;> rfl
theorem unsome : ∀ r : List Nat, (r.map some).filterMap id = r
  | [] => rfl
  | k :: r => by
    show k :: (r.map some).filterMap id = k :: r
    rw [unsome r]
theorem chart_text {c : Chart} (h : c.right = true) : chartOf c.text = some c := by
  obtain ⟨h1, h2, h3, h4⟩ := right_iff.mp h
  obtain ⟨q, hq⟩ := cut_text c.rows 0 fun r hr => (h4 r hr).2
  have hl : ((cut LF 0 [] c.text).map fun (x : Nat × List UInt8) => x.2.map colourOf).dropLast = c.rows.map fun r => r.map some := by
    show ((cut LF 0 [] (c.rows.flatMap fun (r : List Nat) => r.map byteOf ++ [LF])).map fun (x : Nat × List UInt8) => x.2.map colourOf).dropLast = _
    rw [hq, List.dropLast_concat]
  have hr : (c.rows.map fun r => r.map some).map (fun (r : List (Option Nat)) => r.filterMap id) = c.rows := by
    rw [List.map_map]
    conv => rhs; rw [← List.map_id c.rows]
    exact List.map_congr_left fun r _ => unsome r
  have hw : ((c.rows.map fun r => r.map some).headD []).length = c.wide := by
    cases e : c.rows with
    | nil => rw [e] at h3; have h3' : 0 = c.high := h3; omega
    | cons r l =>
      show (r.map some).length = _
      rw [List.length_map]
      exact (h4 r (by rw [e]; exact List.mem_cons_self ..)).1
  unfold chartOf
  simp only [hl]
  rw [hw, hr, List.length_map, h3]
  exact if_pos ⟨h, rfl⟩
theorem text_flat (rows : List (List Nat)) : RugDNeutral.text (flat (encRows rows)) = rows.flatMap fun (r : List Nat) => r.map byteOf ++ [LF] := by
  induction rows with
  | nil => rfl
  | cons r l ih =>
    have e : flat (encRows (r :: l)) = r.map bi ++ 10 :: flat (encRows l) := by simp [flat, encRows]
    rw [e]
    have t : ∀ a b, RugDNeutral.text (a ++ b) = RugDNeutral.text a ++ RugDNeutral.text b := by
      intro a b
      simp [RugDNeutral.text, RugDNeutral.nats]
    rw [t]
    have t2 : RugDNeutral.text (10 :: flat (encRows l)) = LF :: RugDNeutral.text (flat (encRows l)) := rfl
    rw [t2, ih]
    have t3 : RugDNeutral.text (r.map bi) = r.map byteOf := by
      show (((r.map bi).map Int.toNat).map UInt8.ofNat) = _
      rw [List.map_map, List.map_map]
      refine List.map_congr_left fun k _ => ?_
      show UInt8.ofNat (((byteOf k).toNat : Int).toNat) = byteOf k
      rw [Int.toNat_natCast, UInt8.ofNat_toNat]
    rw [t3]
    simp
def bytesOk (ns : List Int) : Prop := ∀ b ∈ ns, 0 ≤ b ∧ b ≤ 255
theorem text_back {ns : List Int} (h : bytesOk ns) : (RugDNeutral.text ns).map (fun c => ((c.toNat : Nat) : Int)) = ns := by
  show (((ns.map Int.toNat).map UInt8.ofNat).map _) = _
  rw [List.map_map, List.map_map]
  conv => rhs; rw [← List.map_id ns]
  refine List.map_congr_left fun b hb => ?_
  show (((UInt8.ofNat b.toNat).toNat : Nat) : Int) = b
  have := h b hb
  rw [UInt8.toNat_ofNat']
  omega
theorem flat_bytes (rows : List (List Nat)) : (rows.flatMap fun (r : List Nat) => r.map byteOf ++ [LF]).map (fun c => ((c.toNat : Nat) : Int)) = flat (encRows rows) := by
  induction rows with
  | nil => rfl
  | cons r l ih =>
    have e : flat (encRows (r :: l)) = r.map bi ++ 10 :: flat (encRows l) := by simp [flat, encRows]
    rw [e, ← ih]
    simp [bi, LF]
theorem enc_col {c : Chart} (h : c.right = true) : ∀ r ∈ enc c, allCol r := by
  intro r hr b hb
  obtain ⟨s, hs, rfl⟩ := List.mem_map.mp hr
  obtain ⟨k, hk, rfl⟩ := List.mem_map.mp hb
  exact (bi_col k (((right_iff.mp h).2.2.2 s hs).2 k hk)).1
theorem enc_wide {c : Chart} (h : c.right = true) : wideOf (enc c) = c.wide := by
  obtain ⟨h1, h2, h3, h4⟩ := right_iff.mp h
  unfold wideOf enc encRows
  cases e : c.rows with
  | nil => rw [e] at h3; have h3' : 0 = c.high := h3; omega
  | cons r l =>
    show (r.map bi).length = _
    rw [List.length_map]
    exact (h4 r (by rw [e]; exact List.mem_cons_self ..)).1
theorem enc_high {c : Chart} (h : c.right = true) : (enc c).length = c.high := by
  rw [enc, encRows, List.length_map]
  exact (right_iff.mp h).2.2.1
theorem enc_chart {c : Chart} (h : c.right = true) : isChart (enc c) = true := by
  obtain ⟨h1, h2, h3, h4⟩ := right_iff.mp h
  have e1 := enc_wide h
  have e2 := enc_high h
  unfold isChart
  rw [e1, e2]
  simp only [sizeOkI, Bool.and_eq_true, decide_eq_true_eq, List.all_eq_true]
  refine ⟨⟨?_, ?_⟩, ⟨⟨⟨h1.1, h1.2.1⟩, h1.2.2⟩, h2⟩⟩
  · cases e : enc c with
    | nil => rw [e] at e2; have e2' : 0 = c.high := e2; omega
    | cons => rfl
  · intro r hr
    obtain ⟨s, hs, rfl⟩ := List.mem_map.mp hr
    rw [List.length_map]
    exact (h4 s hs).1
theorem parse_of_right {c : Chart} (h : c.right = true) : parse (flat (enc c)) = some (enc c) := by
  unfold parse
  rw [parse_flat _ _ (enc_col h)]
  exact if_pos ⟨rfl, by rw [List.nil_append]; exact enc_chart h⟩
theorem parse_some {ns : List Int} {rows : List (List Int)} (e : parse ns = some rows) : ∃ c : Chart, chartOf (RugDNeutral.text ns) = some c ∧ c.right = true ∧ rows = enc c := by
  unfold parse at e
  cases e1 : parseGo ns [] [] with
  | none => rw [e1] at e; cases e
  | some p =>
    obtain ⟨R, q⟩ := p
    rw [e1] at e
    have e' : (if q = [] ∧ isChart R = true then some R else none) = some rows := e
    by_cases hc : q = [] ∧ isChart R = true
    · rw [if_pos hc] at e'
      cases e'
      obtain ⟨hq, hch⟩ := hc
      subst hq
      obtain ⟨z1, _, z3⟩ := parse_inv ns [] [] rows [] e1 (by intro r hr; cases hr) (by intro r hr; cases hr)
      have z3' : flat rows = ns := by simpa [flat] using z3
      have back : encRows (rows.map fun r => r.map dec) = rows := by
        unfold encRows
        rw [List.map_map]
        conv => rhs; rw [← List.map_id rows]
        refine List.map_congr_left fun r hr => ?_
        show (r.map dec).map bi = r
        rw [List.map_map]
        conv => rhs; rw [← List.map_id r]
        exact List.map_congr_left fun b hb => (col_dec (z1 r hr b hb)).2
      have hch' := hch
      simp only [isChart, sizeOkI, Bool.and_eq_true, decide_eq_true_eq, List.all_eq_true] at hch'
      obtain ⟨⟨_, ha⟩, ⟨⟨hw1, hw2⟩, hh⟩, hk⟩ := hch'
      let c : Chart := ⟨wideOf rows, rows.length, rows.map fun r => r.map dec⟩
      have hr : c.right = true := by
        refine right_iff.mpr ⟨⟨hw1, hw2, hh⟩, hk, List.length_map _, ?_⟩
        intro r hr
        obtain ⟨s, hs, rfl⟩ := List.mem_map.mp hr
        refine ⟨by rw [List.length_map]; exact ha s hs, ?_⟩
        intro k hk
        obtain ⟨b, hb, rfl⟩ := List.mem_map.mp hk
        exact (col_dec (z1 s hs b hb)).1
      refine ⟨c, ?_, hr, back.symm⟩
      have ht : c.text = RugDNeutral.text ns := by
        rw [← z3', ← back]
        exact (text_flat _).symm
      rw [← ht]
      exact chart_text hr
    · rw [if_neg hc] at e'
      cases e'
theorem parse_none {ns : List Int} (hb : bytesOk ns) (e : parse ns = none) : chartOf (RugDNeutral.text ns) = none := by
  cases h : chartOf (RugDNeutral.text ns) with
  | none => rfl
  | some c =>
    have q : c.right = true ∧ c.text = RugDNeutral.text ns := by
      unfold chartOf at h
      simp only at h
      split at h
      · rename_i hh
        cases h
        exact hh
      · cases h
    have z : ns = flat (enc c) := by
      rw [← text_back hb, ← q.2]
      exact flat_bytes c.rows
    rw [z, parse_of_right q.1] at e
    cases e
end RM
namespace RM
open Wqbbch
/-! ### what a knot of the rug is -/
def told3 : From → Nat × Nat × Nat
  | .field i j => (0, i, j)
  | .strip i j => (1, i, j)
  | .corner i j => (2, i, j)
def seen (h W H x y : Nat) : Nat × Nat :=
  if x < W + h ∧ y < h then (x, y) else if W + h ≤ x ∧ y < H + h then (y, W + 2 * h - 1 - x) else if h ≤ x ∧ H + h ≤ y then (W + 2 * h - 1 - x, H + 2 * h - 1 - y) else (H + 2 * h - 1 - y, x)
def knot (k : Kind) (L h W H x y : Nat) : Nat × Nat × Nat :=
  if h ≤ x ∧ x < W + h ∧ h ≤ y ∧ y < H + h then (0, x - h, y - h) else match k with
    | .met => (1, max (min x (W + 2 * h - 1 - x)) (min y (H + 2 * h - 1 - y)) % L, min (min x (W + 2 * h - 1 - x)) (min y (H + 2 * h - 1 - y)))
    | .run => (1, (seen h W H x y).1 % L, (seen h W H x y).2)
    | .set => if (seen h W H x y).1 < h then (2, (seen h W H x y).1, (seen h W H x y).2) else (1, ((seen h W H x y).1 - h) % L, (seen h W H x y).2)
theorem s3 {a b c : Nat} {i j : Nat} (h1 : b = i) (h2 : c = j) : (a, b, c) = (a, i, j) := by rw [h1, h2]
theorem knot_is (k : Kind) (L h W H x y : Nat) (hx : x < W + 2 * h) (hy : y < H + 2 * h) (hW : 1 ≤ W) (hH : 1 ≤ H) (hh : 1 ≤ h) : told3 (fromOf k L h W H x y) = knot k L h W H x y := by
  unfold fromOf knot
  by_cases c : h ≤ x ∧ x < W + h ∧ h ≤ y ∧ y < H + h
  · rw [if_pos c]
    simp only
    rw [if_pos (by omega)]
    rfl
  · rw [if_neg c]
    simp only
    rw [if_neg (by omega)]
    cases k with
    | met => rfl
    | run =>
      simp only [seen]
      by_cases c1 : x < W + h ∧ y < h
      · rw [if_pos c1, if_pos c1]; rfl
      · rw [if_neg c1, if_neg c1]
        by_cases c2 : W + h ≤ x ∧ y < H + h
        · rw [if_pos c2, if_pos c2]; rfl
        · rw [if_neg c2, if_neg c2]
          by_cases c3 : h ≤ x ∧ H + h ≤ y
          · rw [if_pos c3, if_pos c3]; rfl
          · rw [if_neg c3, if_neg c3]; rfl
    | set =>
      simp only
      by_cases c1 : x < W + h ∧ y < h
      · have e : seen h W H x y = (x, y) := if_pos c1
        rw [e]
        simp only
        by_cases d : x < h
        · rw [if_pos (by omega), if_pos d]; rfl
        · rw [if_neg (by omega), if_neg (by omega), if_neg (by omega), if_neg (by omega), if_pos (by omega), if_neg d]; rfl
      · by_cases c2 : W + h ≤ x ∧ y < H + h
        · have e : seen h W H x y = (y, W + 2 * h - 1 - x) := (if_neg c1).trans (if_pos c2)
          rw [e]
          simp only
          by_cases d : y < h
          · rw [if_neg (by omega), if_pos (by omega), if_pos d]
            exact s3 rfl (by omega)
          · rw [if_neg (by omega), if_neg (by omega), if_neg (by omega), if_neg (by omega), if_neg d, if_pos (by omega), if_neg d]; rfl
        · by_cases c3 : h ≤ x ∧ H + h ≤ y
          · have e : seen h W H x y = (W + 2 * h - 1 - x, H + 2 * h - 1 - y) := (if_neg c1).trans ((if_neg c2).trans (if_pos c3))
            rw [e]
            simp only
            by_cases d : W + 2 * h - 1 - x < h
            · rw [if_neg (by omega), if_neg (by omega), if_pos (by omega), if_pos d]
              exact s3 (by omega) (by omega)
            · rw [if_neg (by omega), if_neg (by omega), if_neg (by omega), if_neg (by omega), if_neg (by omega), if_neg (by omega), if_pos (by omega), if_neg d]
              exact s3 (congrArg (· % L) (by omega)) rfl
          · have e : seen h W H x y = (H + 2 * h - 1 - y, x) := (if_neg c1).trans ((if_neg c2).trans (if_neg c3))
            rw [e]
            simp only
            by_cases d : H + 2 * h - 1 - y < h
            · rw [if_neg (by omega), if_neg (by omega), if_neg (by omega), if_pos (by omega), if_pos d]
              exact s3 (by omega) rfl
            · rw [if_neg (by omega), if_neg (by omega), if_neg (by omega), if_neg (by omega), if_neg (by omega), if_neg (by omega), if_neg (by omega), if_neg d]
              exact s3 (congrArg (· % L) (by omega)) rfl
/-- where a knot of the border lies in its chart -/
structure In3 (k : Kind) (L h W H : Nat) (p : Nat × Nat × Nat) : Prop where
  a : p.1 ≤ 2
  f : p.1 = 0 → p.2.1 < W ∧ p.2.2 < H
  s : p.1 = 1 → p.2.1 < L ∧ p.2.2 < h
  c : p.1 = 2 → k = .set ∧ p.2.1 < h ∧ p.2.2 < h
theorem seen_lt {h W H x y : Nat} (hx : x < W + 2 * h) (hy : y < H + 2 * h) (c : ¬ (h ≤ x ∧ x < W + h ∧ h ≤ y ∧ y < H + h)) : (seen h W H x y).2 < h := by
  unfold seen
  by_cases c1 : x < W + h ∧ y < h
  · rw [if_pos c1]; exact c1.2
  · rw [if_neg c1]
    by_cases c2 : W + h ≤ x ∧ y < H + h
    · rw [if_pos c2]; show W + 2 * h - 1 - x < h; omega
    · rw [if_neg c2]
      by_cases c3 : h ≤ x ∧ H + h ≤ y
      · rw [if_pos c3]; show H + 2 * h - 1 - y < h; omega
      · rw [if_neg c3]; show x < h; omega
theorem knot_in (k : Kind) {L h W H x y : Nat} (hx : x < W + 2 * h) (hy : y < H + 2 * h) (hL : 1 ≤ L) : In3 k L h W H (knot k L h W H x y) := by
  unfold knot
  by_cases c : h ≤ x ∧ x < W + h ∧ h ≤ y ∧ y < H + h
  · rw [if_pos c]
    exact ⟨by show 0 ≤ 2; omega, fun _ => ⟨by show x - h < W; omega, by show y - h < H; omega⟩, fun e => absurd (show (0 : Nat) = 1 from e) (by omega), fun e => absurd (show (0 : Nat) = 2 from e) (by omega)⟩
  · rw [if_neg c]
    have z := seen_lt hx hy c
    cases k with
    | met =>
      exact ⟨by show 1 ≤ 2; omega, fun e => absurd (show (1 : Nat) = 0 from e) (by omega), fun _ => ⟨Nat.mod_lt _ hL, by show min (min x (W + 2 * h - 1 - x)) (min y (H + 2 * h - 1 - y)) < h; omega⟩, fun e => absurd (show (1 : Nat) = 2 from e) (by omega)⟩
    | run =>
      exact ⟨by show 1 ≤ 2; omega, fun e => absurd (show (1 : Nat) = 0 from e) (by omega), fun _ => ⟨Nat.mod_lt _ hL, z⟩, fun e => absurd (show (1 : Nat) = 2 from e) (by omega)⟩
    | set =>
      simp only
      by_cases d : (seen h W H x y).1 < h
      · rw [if_pos d]
        exact ⟨by show 2 ≤ 2; omega, fun e => absurd (show (2 : Nat) = 0 from e) (by omega), fun e => absurd (show (2 : Nat) = 1 from e) (by omega), fun _ => ⟨rfl, d, z⟩⟩
      · rw [if_neg d]
        exact ⟨by show 1 ≤ 2; omega, fun e => absurd (show (1 : Nat) = 0 from e) (by omega), fun _ => ⟨Nat.mod_lt _ hL, z⟩, fun e => absurd (show (1 : Nat) = 2 from e) (by omega)⟩
/-! ### the rug -/
/-- an item of a chart's rows -/
def item (rows : List (List Int)) (x y : Nat) : Int := (rows.getD y []).getD x 0
theorem item_enc {c : Chart} (h : c.right = true) {x y : Nat} (hx : x < c.wide) (hy : y < c.high) : item (enc c) x y = bi (c.at_ x y) := by
  obtain ⟨h1, h2, h3, h4⟩ := right_iff.mp h
  have hy' : y < c.rows.length := by omega
  have hl : (c.rows[y]).length = c.wide := (h4 _ (List.getElem_mem hy')).1
  simp only [item, enc, encRows, Chart.at_, List.getD_eq_getElem?_getD, List.getElem?_map, List.getElem?_eq_getElem hy', Option.map_some, Option.getD_some]
  have hx' : x < (c.rows[y]).length := by omega
  simp only [List.getElem?_eq_getElem hx', Option.map_some, Option.getD_some]
/-- the knot's colour among the three sources -/
def srcOf (f s c : List (List Int)) (a : Nat) : List (List Int) := if a = 0 then f else if a = 1 then s else c
def pick (f s c : List (List Int)) (p : Nat × Nat × Nat) : Int := item (srcOf f s c p.1) p.2.1 p.2.2
def rugRow (k : Kind) (L h W H : Nat) (f s c : List (List Int)) (y : Nat) : List Int := (List.range (W + 2 * h)).map fun x => pick f s c (knot k L h W H x y)
def rug (k : Kind) (L h W H : Nat) (f s c : List (List Int)) : List (List Int) := (List.range (H + 2 * h)).map fun y => rugRow k L h W H f s c y
/-- the specification's rug is this one; cr: the corner's rows (no rows but for kind 0) -/
theorem rug_is {k : Kind} {t s c : Chart} {cr : List (List Int)} (ht : t.right = true) (hs : s.right = true) (hc : k = .set → c.right = true ∧ c.wide = s.high ∧ c.high = s.high ∧ cr = enc c) :
    enc (bordered k t s c) = rug k s.wide s.high t.wide t.high (enc t) (enc s) cr := by
  obtain ⟨t1, _⟩ := right_iff.mp ht
  obtain ⟨s1, _⟩ := right_iff.mp hs
  unfold enc encRows bordered Chart.by_ rug
  rw [List.map_map]
  refine List.map_congr_left fun y hy => ?_
  rw [List.mem_range] at hy
  show ((List.range (t.wide + 2 * s.high)).map _).map bi = rugRow _ _ _ _ _ _ _ _ y
  unfold rugRow
  rw [List.map_map]
  refine List.map_congr_left fun x hx => ?_
  rw [List.mem_range] at hx
  have e := knot_is k s.wide s.high t.wide t.high x y hx hy (by omega) (by omega) (by omega)
  have I := knot_in k (L := s.wide) hx hy (by omega)
  rw [← e] at I ⊢
  show bi (match fromOf k s.wide s.high t.wide t.high x y with
    | .field i j => t.at_ i j
    | .strip i j => s.at_ i j
    | .corner i j => c.at_ i j) = _
  cases q : fromOf k s.wide s.high t.wide t.high x y with
  | field i j =>
    rw [q] at I
    exact (item_enc ht (I.f rfl).1 (I.f rfl).2).symm
  | strip i j =>
    rw [q] at I
    exact (item_enc hs (I.s rfl).1 (I.s rfl).2).symm
  | corner i j =>
    rw [q] at I
    obtain ⟨hk, hi, hj⟩ := I.c rfl
    obtain ⟨c1, c2, c3, c4⟩ := hc hk
    subst c4
    exact (item_enc c1 (by show i < c.wide; rw [c2]; exact hi) (by show j < c.high; rw [c3]; exact hj)).symm
end RM
namespace RM
open Wqbbch
/-! ### the call round -/
def sideI (n : Nat) : Bool := decide (1 ≤ n) && decide (n ≤ 512)
def inB (kind : Int) (L h W H : Nat) : Bool := decide (kind ≤ 2) && (decide (1 ≤ h) && decide (h ≤ 128)) && (sideI L && (sideI W && sideI H))
def comesOut (kind : Int) (L h W H : Nat) : Bool := if kind = 0 then decide (W % L = 0) && decide (H % L = 0) else if kind = 1 then decide ((W + 2 * h) % (2 * L) = 0) && decide ((H + 2 * h) % (2 * L) = 0) else decide ((W + h) % L = 0) && decide ((H + h) % L = 0)
def rightCorner (kind : Int) (corner : List (List Int)) (h : Nat) : Bool := if kind ≠ 0 then corner.isEmpty else decide (corner.length = h) && decide (wideOf corner = h)
def refusal (kind : Int) (f s c : List (List Int)) : Int :=
  if ¬ (inB kind (wideOf s) s.length (wideOf f) f.length = true ∧ rightCorner kind c s.length = true) then -1 else if ¬ comesOut kind (wideOf s) s.length (wideOf f) f.length = true then -3
  else if ¬ sizeOkI (wideOf f + 2 * s.length) (f.length + 2 * s.length) = true then -8 else 0
def kk (kind : Int) : Kind := if kind = 0 then .set else if kind = 1 then .met else .run
def cparse (c : List Int) : Option (List (List Int)) := if c = [] then some [] else parse c
def roundM (kind : Int) (t s c : List Int) : List Int :=
  if 66048 < t.length ∨ 66048 < s.length ∨ 66048 < c.length then [-2] else match parse t, parse s, cparse c with
    | some f, some s, some c => if refusal kind f s c < 0 then [refusal kind f s c] else
      ((flat (rug (kk kind) (wideOf s) s.length (wideOf f) f.length f s c)).length : Int) :: flat (rug (kk kind) (wideOf s) s.length (wideOf f) f.length f s c)
    | _, _, _ => [-6]
theorem text_len (ns : List Int) : (RugDNeutral.text ns).length = ns.length := by simp [RugDNeutral.text, RugDNeutral.nats]
theorem shown_says (z : Int) : RugDNeutral.shown (says z) = [z] := rfl
theorem shown_whole (c : Chart) : RugDNeutral.shown (whole c) = ((flat (enc c)).length : Int) :: flat (enc c) := by
  have e := flat_bytes c.rows
  show ((c.text.length : Nat) : Int) :: ([] ++ c.text.map _) = _
  rw [List.nil_append]
  have e' : c.text.map (fun c => ((c.toNat : Nat) : Int)) = flat (enc c) := e
  rw [e', ← e', List.length_map]
theorem comes_fits {kind : Int} {L h W H : Nat} : fits (kk kind) L h W H = comesOut kind L h W H := by
  unfold kk comesOut
  by_cases c0 : kind = 0
  · rw [if_pos c0, if_pos c0]; rfl
  · rw [if_neg c0, if_neg c0]
    by_cases c1 : kind = 1
    · rw [if_pos c1, if_pos c1]; rfl
    · rw [if_neg c1, if_neg c1]; rfl
theorem size_ok {w h : Nat} : sizeOkI w h = true ↔ ¬ (sizeOk w h = false ∨ KNOTS < w * h) := by
  simp only [sizeOkI, sizeOk, Bool.and_eq_true, decide_eq_true_eq, ← Bool.not_eq_true]
  have a : SIDE = 512 := rfl
  have b : KNOTS = 65536 := rfl
  rw [a, b]
  omega
/-- the end of round, when the bounds are kept -/
theorem round_told {kind : Int} {t s c : Chart} {cr : List (List Int)} (ht : t.right = true) (hs : s.right = true) (hb : inB kind s.wide s.high t.wide t.high = true) (hr : rightCorner kind cr s.high = true)
    (hc : kk kind = .set → c.right = true ∧ c.wide = s.high ∧ c.high = s.high ∧ cr = enc c) :
    RugDNeutral.shown (roundTold (kk kind) t s c) = if refusal kind (enc t) (enc s) cr < 0 then [refusal kind (enc t) (enc s) cr] else
      ((flat (rug (kk kind) s.wide s.high t.wide t.high (enc t) (enc s) cr)).length : Int) :: flat (rug (kk kind) s.wide s.high t.wide t.high (enc t) (enc s) cr) := by
  unfold refusal roundTold
  rw [enc_wide ht, enc_high ht, enc_wide hs, enc_high hs, if_neg (not_not_intro ⟨hb, hr⟩), comes_fits]
  cases e : comesOut kind s.wide s.high t.wide t.high with
  | false => rfl
  | true =>
    show RugDNeutral.shown (if sizeOk (t.wide + 2 * s.high) (t.high + 2 * s.high) = false ∨ KNOTS < (t.wide + 2 * s.high) * (t.high + 2 * s.high) then LARGE else whole (bordered (kk kind) t s c)) = if (if ¬ sizeOkI (t.wide + 2 * s.high) (t.high + 2 * s.high) = true then -8 else 0) < 0 then [if ¬ sizeOkI (t.wide + 2 * s.high) (t.high + 2 * s.high) = true then -8 else 0] else _
    by_cases z : sizeOkI (t.wide + 2 * s.high) (t.high + 2 * s.high) = true
    · rw [if_neg (size_ok.mp z), if_neg (not_not_intro z), shown_whole, rug_is ht hs hc]
      rfl
    · rw [if_pos (Decidable.not_not.mp (fun q => z (size_ok.mpr q))), if_pos z]
      rfl
theorem refusal_bad {kind : Int} {f s c : List (List Int)} (h : ¬ (inB kind (wideOf s) s.length (wideOf f) f.length = true ∧ rightCorner kind c s.length = true)) : refusal kind f s c = -1 := if_pos h
theorem one_is {n : Nat} (h : 1 ≤ n ∧ n ≤ 512) : sideI n = true := by
  unfold sideI
  rw [decide_eq_true h.1, decide_eq_true h.2] <;> rfl
theorem round_is {kind : Int} {t s c : List Int} (hk : 0 ≤ kind) (bt : bytesOk t) (bs : bytesOk s) (bc : bytesOk c) : PyWqbbch.round_of kind t s c = roundM kind t s c := by
  show RugDNeutral.shown (answer (.round (RugDNeutral.text t) (RugDNeutral.text s) (RugDNeutral.text c) kind.toNat)) = _
  unfold roundM answer
  simp only [text_len]
  have eT : TEXT = 66048 := rfl
  rw [eT]
  by_cases c0 : 66048 < t.length ∨ 66048 < s.length ∨ 66048 < c.length
  · rw [if_pos c0, if_pos c0]; rfl
  · rw [if_neg c0, if_neg c0]
    unfold ofChart
    simp only [text_len, eT]
    rw [if_neg (show ¬ 66048 < t.length by omega)]
    cases e1 : parse t with
    | none => rw [parse_none bt e1]; rfl
    | some f =>
    obtain ⟨T, hT, rT, rfl⟩ := parse_some e1
    rw [hT]
    simp only
    rw [if_neg (show ¬ 66048 < s.length by omega)]
    cases e2 : parse s with
    | none => rw [parse_none bs e2]; rfl
    | some g =>
    obtain ⟨S, hS, rS, rfl⟩ := parse_some e2
    rw [hS]
    simp only
    obtain ⟨T1, _⟩ := right_iff.mp rT
    obtain ⟨S1, _⟩ := right_iff.mp rS
    have wT := enc_wide rT
    have hTt := enc_high rT
    have wS := enc_wide rS
    have hSs := enc_high rS
    have bnd : kind ≤ 2 → S.high ≤ 128 → inB kind S.wide S.high T.wide T.high = true := by
      intro a b
      unfold inB
      rw [decide_eq_true a, decide_eq_true S1.2.2.1, decide_eq_true b, one_is ⟨S1.1, S1.2.1⟩, one_is ⟨T1.1, T1.2.1⟩, one_is T1.2.2] <;> rfl
    have nbnd : ¬ (kind ≤ 2 ∧ S.high ≤ 128) → ¬ inB kind S.wide S.high T.wide T.high = true := by
      intro a b
      unfold inB at b
      simp only [Bool.and_eq_true, decide_eq_true_eq] at b
      exact a ⟨b.1.1, b.1.2.2⟩
    have bad : ∀ {cr : List (List Int)} {z : List Int}, ¬ (inB kind S.wide S.high T.wide T.high = true ∧ rightCorner kind cr S.high = true) → [(-1 : Int)] = if refusal kind (enc T) (enc S) cr < 0 then [refusal kind (enc T) (enc S) cr] else z := by
      intro cr z hz
      have q : refusal kind (enc T) (enc S) cr = -1 := refusal_bad (by rw [wT, hTt, wS, hSs]; exact hz)
      rw [q]; rfl
    have eD : DEEP = 128 := rfl
    by_cases c1 : c = []
    · subst c1
      have tn : RugDNeutral.text [] = [] := rfl
      rw [tn, if_pos rfl]
      show _ = if refusal kind (enc T) (enc S) [] < 0 then _ else _
      unfold kindAt
      by_cases k0 : kind = 0
      · subst k0
        exact bad (by
          intro hh
          have := hh.2
          unfold rightCorner at this
          rw [if_neg (by decide)] at this
          simp only [Bool.and_eq_true, decide_eq_true_eq] at this
          have z : (0 : Nat) = S.high := this.1
          omega)
      · by_cases k1 : kind = 1
        · subst k1
          show RugDNeutral.shown (if DEEP < S.high then BAD else roundTold .met T S S) = _
          by_cases d : DEEP < S.high
          · rw [if_pos d]
            exact bad fun hh => nbnd (by omega) hh.1
          · rw [if_neg d]
            have z := round_told (kind := 1) (c := S) (cr := []) rT rS (bnd (by omega) (by omega)) rfl (fun h => by cases h)
            rw [wS, wT, hTt, hSs]
            exact z
        · by_cases k2 : kind = 2
          · subst k2
            show RugDNeutral.shown (if DEEP < S.high then BAD else roundTold .run T S S) = _
            by_cases d : DEEP < S.high
            · rw [if_pos d]
              exact bad fun hh => nbnd (by omega) hh.1
            · rw [if_neg d]
              have z := round_told (kind := 2) (c := S) (cr := []) rT rS (bnd (by omega) (by omega)) rfl (fun h => by cases h)
              rw [wS, wT, hTt, hSs]
              exact z
          · have e : kind.toNat = kind.toNat - 3 + 3 := by omega
            rw [e]
            exact bad fun hh => nbnd (by omega) hh.1
    · have tn : RugDNeutral.text c ≠ [] := by
        intro q
        have q2 := text_len c
        rw [q] at q2
        cases c with
        | nil => exact c1 rfl
        | cons a r => cases q2
      rw [if_neg tn, if_neg (show ¬ 66048 < c.length by omega)]
      have ec : cparse c = parse c := if_neg c1
      rw [ec]
      cases e3 : parse c with
      | none => rw [parse_none bc e3]; rfl
      | some g =>
      obtain ⟨C, hC, rC, rfl⟩ := parse_some e3
      rw [hC]
      simp only
      obtain ⟨C1, _⟩ := right_iff.mp rC
      have wC := enc_wide rC
      have hCc := enc_high rC
      have ne : (enc C).isEmpty = false := by
        cases e : enc C with
        | nil => rw [e] at hCc; have z : 0 = C.high := hCc; omega
        | cons => rfl
      unfold kindAt
      by_cases k0 : kind = 0
      · subst k0
        show RugDNeutral.shown (if DEEP < S.high ∨ C.wide ≠ S.high ∨ C.high ≠ S.high then BAD else roundTold .set T S C) = _
        by_cases d : DEEP < S.high ∨ C.wide ≠ S.high ∨ C.high ≠ S.high
        · rw [if_pos d]
          exact bad fun hh => by
            have r := hh.2
            unfold rightCorner at r
            rw [if_neg (by decide), wC, hCc] at r
            simp only [Bool.and_eq_true, decide_eq_true_eq] at r
            rcases d with d | d | d
            · exact nbnd (by omega) hh.1
            · exact d r.2
            · exact d r.1
        · rw [if_neg d]
          have d' : S.high ≤ 128 ∧ C.wide = S.high ∧ C.high = S.high := by omega
          have z := round_told (kind := 0) (c := C) (cr := enc C) rT rS (bnd (by omega) d'.1) (by
            unfold rightCorner
            rw [if_neg (by decide), wC, hCc, decide_eq_true d'.2.1, decide_eq_true d'.2.2] <;> rfl) (fun _ => ⟨rC, d'.2.1, d'.2.2, rfl⟩)
          rw [wS, wT, hTt, hSs]
          exact z
      · have nr : rightCorner kind (enc C) S.high = false := by
          unfold rightCorner
          rw [if_pos k0, ne]
        have hbad := bad (cr := enc C) (z := ((flat (rug (kk kind) (wideOf (enc S)) (enc S).length (wideOf (enc T)) (enc T).length (enc T) (enc S) (enc C))).length : Int) :: flat (rug (kk kind) (wideOf (enc S)) (enc S).length (wideOf (enc T)) (enc T).length (enc T) (enc S) (enc C))) (fun hh => by rw [nr] at hh; cases hh.2)
        refine Eq.trans ?_ hbad
        by_cases k1 : kind = 1
        · subst k1; rfl
        · by_cases k2 : kind = 2
          · subst k2; rfl
          · have e : kind.toNat = kind.toNat - 3 + 3 := by omega
            rw [e]; rfl
end RM
namespace RM
open Wqbbch
/-! ### colours gathered at their places -/
def firstAt (l : List (Nat × Nat)) (i : Nat) : Option Nat := (l.find? fun x => x.1 == i).map (·.2)
def Alike (l : List (Nat × Nat)) : Prop := ∀ x ∈ l, ∀ y ∈ l, x.1 = y.1 → x.2 = y.2
def gStep (a : Option (Array (Option Nat))) (x : Nat × Nat) : Option (Array (Option Nat)) := match a with
  | none => none
  | some v => match v.getD x.1 none with
    | none => some (v.setIfInBounds x.1 (some x.2))
    | some k => if k = x.2 then some v else none
theorem gathered_eq (n : Nat) (l : List (Nat × Nat)) : gathered n l = l.foldl gStep (some (Array.replicate n none)) := rfl
theorem gStep_none : ∀ l : List (Nat × Nat), l.foldl gStep none = none
  | [] => rfl
  | _ :: r => gStep_none r
theorem firstAt_app (l : List (Nat × Nat)) (x : Nat × Nat) (i : Nat) : firstAt (l ++ [x]) i = (firstAt l i).or (if x.1 = i then some x.2 else none) := by
  unfold firstAt
  rw [List.find?_append]
  cases e : l.find? (fun x => x.1 == i) with
  | some y => rfl
  | none =>
    rw [Option.none_or]
    by_cases c : x.1 = i
    · rw [if_pos c, List.find?_cons_of_pos (by simpa using c)]
      rfl
    · rw [if_neg c, List.find?_cons_of_neg (by simpa using c)]
      rfl
theorem firstAt_mem {l : List (Nat × Nat)} {i c : Nat} (h : firstAt l i = some c) : (i, c) ∈ l := by
  unfold firstAt at h
  cases e : l.find? (fun x => x.1 == i) with
  | none => rw [e] at h; cases h
  | some y =>
    rw [e] at h
    have h1 := List.find?_some e
    have h2 := List.mem_of_find?_eq_some e
    obtain ⟨a, b⟩ := y
    have : a = i := by simpa using h1
    subst this
    cases h
    exact h2
theorem firstAt_none {l : List (Nat × Nat)} {i : Nat} (h : firstAt l i = none) : ∀ x ∈ l, x.1 ≠ i := by
  intro x hx z
  unfold firstAt at h
  rw [Option.map_eq_none_iff, List.find?_eq_none] at h
  exact h x hx (by simpa using z)
theorem getD_set (v : Array (Option Nat)) (i j : Nat) (c : Option Nat) (hi : i < v.size) : (v.setIfInBounds i c).getD j none = if i = j then c else v.getD j none := by
  simp only [Array.getD_eq_getD_getElem?, Array.getElem?_setIfInBounds]
  by_cases e : i = j
  · subst e
    simp [hi]
  · simp [e]
structure GInv (n : Nat) (v : Array (Option Nat)) (l : List (Nat × Nat)) : Prop where
  size : v.size = n
  at_ : ∀ i, i < n → v.getD i none = firstAt l i
  ok : Alike l
theorem gather_go (n : Nat) : ∀ (l2 l1 : List (Nat × Nat)) (v : Array (Option Nat)), GInv n v l1 → (∀ x ∈ l2, x.1 < n) →
    (Alike (l1 ++ l2) → ∃ a, l2.foldl gStep (some v) = some a ∧ GInv n a (l1 ++ l2)) ∧ (¬ Alike (l1 ++ l2) → l2.foldl gStep (some v) = none)
  | [], l1, v, g, _ => by
    rw [List.append_nil]
    exact ⟨fun _ => ⟨v, rfl, g⟩, fun h => absurd g.ok h⟩
  | x :: r, l1, v, g, hx => by
    have hxn : x.1 < n := hx x (List.mem_cons_self ..)
    have hr : ∀ y ∈ r, y.1 < n := fun y hy => hx y (List.mem_cons_of_mem _ hy)
    have as : l1 ++ x :: r = (l1 ++ [x]) ++ r := by simp
    rw [as]
    show (Alike ((l1 ++ [x]) ++ r) → ∃ a, r.foldl gStep (gStep (some v) x) = some a ∧ _) ∧ (_ → r.foldl gStep (gStep (some v) x) = none)
    have e := g.at_ x.1 hxn
    cases c : firstAt l1 x.1 with
    | none =>
      rw [c] at e
      have st : gStep (some v) x = some (v.setIfInBounds x.1 (some x.2)) := by
        unfold gStep
        simp only [e]
      rw [st]
      refine gather_go n r (l1 ++ [x]) _ ⟨?_, ?_, ?_⟩ hr
      · rw [Array.size_setIfInBounds]; exact g.size
      · intro i hi
        rw [getD_set _ _ _ _ (by rw [g.size]; exact hxn), firstAt_app, g.at_ i hi]
        by_cases z : x.1 = i
        · subst z
          rw [if_pos rfl, c, if_pos rfl]
          rfl
        · rw [if_neg z, if_neg z, Option.or_none]
      · intro y hy y2 hy2 hh
        have ne := firstAt_none c
        rcases List.mem_append.mp hy with hy | hy
        · rcases List.mem_append.mp hy2 with hy2 | hy2
          · exact g.ok y hy y2 hy2 hh
          · rw [List.mem_singleton.mp hy2] at hh ⊢
            exact absurd hh (ne y hy)
        · rw [List.mem_singleton.mp hy] at hh ⊢
          rcases List.mem_append.mp hy2 with hy2 | hy2
          · exact absurd hh.symm (ne y2 hy2)
          · rw [List.mem_singleton.mp hy2]
    | some k =>
      rw [c] at e
      have mem := firstAt_mem c
      by_cases z : k = x.2
      · have st : gStep (some v) x = some v := by
          unfold gStep
          simp only [e]
          exact if_pos z
        rw [st]
        subst z
        refine gather_go n r (l1 ++ [x]) v ⟨g.size, ?_, ?_⟩ hr
        · intro i hi
          rw [firstAt_app, g.at_ i hi]
          by_cases w : x.1 = i
          · subst w
            rw [c]; rfl
          · rw [if_neg w, Option.or_none]
        · intro y hy y2 hy2 hh
          have up : ∀ y ∈ l1 ++ [x], y ∈ l1 := by
            intro y hy
            rcases List.mem_append.mp hy with hy | hy
            · exact hy
            · rw [List.mem_singleton.mp hy]; exact mem
          exact g.ok y (up y hy) y2 (up y2 hy2) hh
      · have st : gStep (some v) x = none := by
          unfold gStep
          simp only [e]
          exact if_neg z
        rw [st, gStep_none]
        refine ⟨fun al => ?_, fun _ => rfl⟩
        refine absurd ?_ z
        exact al (x.1, k) (by simp [mem]) x (by simp) rfl
/-- gathered, told by its list alone -/
theorem gathered_some {n : Nat} {l : List (Nat × Nat)} (hb : ∀ x ∈ l, x.1 < n) (h : Alike l) : ∃ a, gathered n l = some a ∧ ∀ i, i < n → a.getD i none = firstAt l i := by
  have g0 : GInv n (Array.replicate n none) [] := ⟨by simp, fun i hi => by simp [firstAt, Array.getD_eq_getD_getElem?, hi], fun x hx => by cases hx⟩
  obtain ⟨a, e, g⟩ := (gather_go n l [] _ g0 hb).1 h
  exact ⟨a, (gathered_eq n l).trans e, g.at_⟩
theorem gathered_none {n : Nat} {l : List (Nat × Nat)} (hb : ∀ x ∈ l, x.1 < n) (h : ¬ Alike l) : gathered n l = none := by
  have g0 : GInv n (Array.replicate n none) [] := ⟨by simp, fun i hi => by simp [firstAt, Array.getD_eq_getD_getElem?, hi], fun x hx => by cases hx⟩
  exact (gathered_eq n l).trans ((gather_go n l [] _ g0 hb).2 h)
/-! ### the border's knots -/
theorem at_of_rows {c : Chart} (h : c.right = true) {x y : Nat} (hy : y < c.rows.length) (hx : x < (c.rows[y]).length) : c.at_ x y = (c.rows[y])[x] := by
  unfold Chart.at_
  rw [List.getD_eq_getElem?_getD, List.getD_eq_getElem?_getD, List.getElem?_eq_getElem hy, Option.getD_some, List.getElem?_eq_getElem hx, Option.getD_some]
theorem border_mem {t : Chart} (ht : t.right = true) {k : Kind} {L h : Nat} {p : From × Nat} : p ∈ borderKnots t k L h ↔ ∃ x y, x < t.wide ∧ y < t.high ∧ p = (fromOf k L h (t.wide - 2 * h) (t.high - 2 * h) x y, t.at_ x y) := by
  obtain ⟨_, _, hl, hr⟩ := right_iff.mp ht
  unfold borderKnots
  rw [List.mem_flatMap]
  constructor
  · rintro ⟨⟨r, y⟩, hm, hp⟩
    obtain ⟨_, hy, e⟩ := List.mem_zipIdx hm
    obtain ⟨⟨c, x⟩, hm2, rfl⟩ := List.mem_map.mp hp
    obtain ⟨_, hx, e2⟩ := List.mem_zipIdx hm2
    simp only at hx hy e e2 ⊢
    have hy' : y < t.rows.length := by omega
    have er : r = t.rows[y] := by simpa using e
    subst er
    have hx' : x < (t.rows[y]).length := by omega
    have ec : c = (t.rows[y])[x] := by simpa using e2
    have hw := (hr _ (List.getElem_mem hy')).1
    refine ⟨x, y, by omega, by omega, ?_⟩
    rw [at_of_rows ht hy' hx', ec]
  · rintro ⟨x, y, hx, hy, rfl⟩
    have hy' : y < t.rows.length := by omega
    have hw := (hr _ (List.getElem_mem hy')).1
    have hx' : x < (t.rows[y]).length := by omega
    refine ⟨(t.rows[y], y), List.mk_mem_zipIdx_iff_getElem?.mpr (List.getElem?_eq_getElem hy'), ?_⟩
    refine List.mem_map.mpr ⟨((t.rows[y])[x], x), List.mk_mem_zipIdx_iff_getElem?.mpr (List.getElem?_eq_getElem hx'), ?_⟩
    simp only
    rw [at_of_rows ht hy' hx']
theorem strip_mem {L : Nat} {l : List (From × Nat)} {p : Nat × Nat} : p ∈ stripKnots L l ↔ ∃ i j c, (From.strip i j, c) ∈ l ∧ p = (j * L + i, c) := by
  unfold stripKnots
  rw [List.mem_filterMap]
  constructor
  · rintro ⟨⟨f, c⟩, hm, e⟩
    cases f with
    | field i j => cases e
    | corner i j => cases e
    | strip i j =>
      cases e
      exact ⟨i, j, c, hm, rfl⟩
  · rintro ⟨i, j, c, hm, rfl⟩
    exact ⟨_, hm, rfl⟩
theorem corner_mem {h : Nat} {l : List (From × Nat)} {p : Nat × Nat} : p ∈ cornerKnots h l ↔ ∃ i j c, (From.corner i j, c) ∈ l ∧ p = (j * h + i, c) := by
  unfold cornerKnots
  rw [List.mem_filterMap]
  constructor
  · rintro ⟨⟨f, c⟩, hm, e⟩
    cases f with
    | field i j => cases e
    | strip i j => cases e
    | corner i j =>
      cases e
      exact ⟨i, j, c, hm, rfl⟩
  · rintro ⟨i, j, c, hm, rfl⟩
    exact ⟨_, hm, rfl⟩
end RM
namespace RM
open Wqbbch
/-! ### a strip found: what it is, by the rug's knots alone -/
/-- knots of the border that are the same knot of strip or corner have one colour -/
def OneCol (R : List (List Int)) (k : Kind) (L h W H : Nat) : Prop := ∀ x y x' y', x < W + 2 * h → y < H + 2 * h → x' < W + 2 * h → y' < H + 2 * h → (knot k L h W H x y).1 ≠ 0 → knot k L h W H x y = knot k L h W H x' y' → item R x y = item R x' y'
theorem bi_inj0 : ∀ a, a < 62 → ∀ b, b < 62 → bi a = bi b → a = b := by decide +kernel
theorem at_lt {t : Chart} (h : t.right = true) {x y : Nat} (hx : x < t.wide) (hy : y < t.high) : t.at_ x y < 62 := by
  obtain ⟨_, _, hl, hr⟩ := right_iff.mp h
  have hy' : y < t.rows.length := by omega
  have hw := hr _ (List.getElem_mem hy')
  rw [at_of_rows h hy' (by omega)]
  exact hw.2 _ (List.getElem_mem _)
theorem item_eq {t : Chart} (h : t.right = true) {x y x' y' : Nat} (hx : x < t.wide) (hy : y < t.high) (hx' : x' < t.wide) (hy' : y' < t.high) : item (enc t) x y = item (enc t) x' y' ↔ t.at_ x y = t.at_ x' y' := by
  rw [item_enc h hx hy, item_enc h hx' hy']
  exact ⟨fun e => bi_inj0 _ (at_lt h hx hy) _ (at_lt h hx' hy') e, fun e => by rw [e]⟩
/-- a rug with a depth that leaves a field -/
structure RugOk (t : Chart) (h : Nat) : Prop where
  r : t.right = true
  h1 : 1 ≤ h
  w : 2 * h < t.wide
  v : 2 * h < t.high
theorem told_knot {t : Chart} {h : Nat} (o : RugOk t h) (k : Kind) (L : Nat) {x y : Nat} (hx : x < t.wide) (hy : y < t.high) : told3 (fromOf k L h (t.wide - 2 * h) (t.high - 2 * h) x y) = knot k L h (t.wide - 2 * h) (t.high - 2 * h) x y :=
  knot_is k L h _ _ x y (by have := o.w; omega) (by have := o.v; omega) (by have := o.w; omega) (by have := o.v; omega) o.h1
theorem told_inj : ∀ {a b : From}, told3 a = told3 b → a = b := by
  intro a b h
  cases a <;> cases b <;> simp [told3] at h <;> simp [h]
/-- strip's and corner's knots of the border by their places -/
theorem strip_at {t : Chart} {h : Nat} (o : RugOk t h) {k : Kind} {L : Nat} (hL : 1 ≤ L) {p : Nat × Nat} : p ∈ stripKnots L (borderKnots t k L h) ↔ ∃ x y i j, x < t.wide ∧ y < t.high ∧ knot k L h (t.wide - 2 * h) (t.high - 2 * h) x y = (1, i, j) ∧ p = (j * L + i, t.at_ x y) := by
  rw [strip_mem]
  constructor
  · rintro ⟨i, j, c, hm, rfl⟩
    obtain ⟨x, y, hx, hy, e⟩ := (border_mem o.r).mp hm
    obtain ⟨e1, rfl⟩ := Prod.mk.inj e
    refine ⟨x, y, i, j, hx, hy, ?_, rfl⟩
    rw [← told_knot o k L hx hy]
    exact (congrArg told3 e1).symm
  · rintro ⟨x, y, i, j, hx, hy, e, rfl⟩
    refine ⟨i, j, _, (border_mem o.r).mpr ⟨x, y, hx, hy, ?_⟩, rfl⟩
    rw [← told_knot o k L hx hy] at e
    have e2 : fromOf k L h (t.wide - 2 * h) (t.high - 2 * h) x y = .strip i j := told_inj e
    rw [e2]
theorem corner_at {t : Chart} {h : Nat} (o : RugOk t h) {k : Kind} {L : Nat} {p : Nat × Nat} : p ∈ cornerKnots h (borderKnots t k L h) ↔ ∃ x y i j, x < t.wide ∧ y < t.high ∧ knot k L h (t.wide - 2 * h) (t.high - 2 * h) x y = (2, i, j) ∧ p = (j * h + i, t.at_ x y) := by
  rw [corner_mem]
  constructor
  · rintro ⟨i, j, c, hm, rfl⟩
    obtain ⟨x, y, hx, hy, e⟩ := (border_mem o.r).mp hm
    obtain ⟨e1, rfl⟩ := Prod.mk.inj e
    refine ⟨x, y, i, j, hx, hy, ?_, rfl⟩
    rw [← told_knot o k L hx hy]
    exact (congrArg told3 e1).symm
  · rintro ⟨x, y, i, j, hx, hy, e, rfl⟩
    refine ⟨i, j, _, (border_mem o.r).mpr ⟨x, y, hx, hy, ?_⟩, rfl⟩
    rw [← told_knot o k L hx hy] at e
    have e2 : fromOf k L h (t.wide - 2 * h) (t.high - 2 * h) x y = .corner i j := told_inj e
    rw [e2]
theorem place_inj {L i j i' j' : Nat} (hi : i < L) (hi' : i' < L) (e : j * L + i = j' * L + i') : i = i' ∧ j = j' := by
  have d : ∀ a b, b < L → (a * L + b) / L = a ∧ (a * L + b) % L = b := by
    intro a b hb
    have hL : 0 < L := by omega
    rw [Nat.mul_comm, Nat.mul_add_div hL, Nat.mul_add_mod, Nat.div_eq_of_lt hb, Nat.mod_eq_of_lt hb]
    exact ⟨rfl, rfl⟩
  have a := d j i hi
  have b := d j' i' hi'
  rw [e] at a
  exact ⟨a.2.symm.trans b.2, a.1.symm.trans b.1⟩
theorem place_lt {L h i j : Nat} (hi : i < L) (hj : j < h) : j * L + i < L * h := by
  have : (j + 1) * L ≤ h * L := Nat.mul_le_mul_right _ hj
  rw [Nat.mul_comm L h]
  rw [Nat.succ_mul] at this
  omega
theorem alike_strip {t : Chart} {h : Nat} (o : RugOk t h) {k : Kind} {L : Nat} (hL : 1 ≤ L) : (Alike (stripKnots L (borderKnots t k L h)) ∧ Alike (cornerKnots h (borderKnots t k L h))) ↔ OneCol (enc t) k L h (t.wide - 2 * h) (t.high - 2 * h) := by
  have ow := o.w
  have ov := o.v
  constructor
  · rintro ⟨a, b⟩ x y x' y' hx hy hx' hy' n0 e
    have hx : x < t.wide := by omega
    have hy : y < t.high := by omega
    have hx' : x' < t.wide := by omega
    have hy' : y' < t.high := by omega
    rw [item_eq o.r hx hy hx' hy']
    have I := knot_in k (L := L) (h := h) (W := t.wide - 2 * h) (H := t.high - 2 * h) (x := x) (y := y) (by omega) (by omega) hL
    cases q : knot k L h (t.wide - 2 * h) (t.high - 2 * h) x y with
    | mk q1 r =>
    obtain ⟨i, j⟩ := r
    rw [q] at I n0 e
    have h3 : q1 = 1 ∨ q1 = 2 := by
      have z : q1 ≤ 2 := I.a
      have z2 : q1 ≠ 0 := n0
      omega
    rcases h3 with rfl | rfl
    · exact a _ ((strip_at o hL).mpr ⟨x, y, i, j, hx, hy, q, rfl⟩) _ ((strip_at o hL).mpr ⟨x', y', i, j, hx', hy', e.symm, rfl⟩) rfl
    · exact b _ ((corner_at o).mpr ⟨x, y, i, j, hx, hy, q, rfl⟩) _ ((corner_at o).mpr ⟨x', y', i, j, hx', hy', e.symm, rfl⟩) rfl
  · intro a
    refine ⟨?_, ?_⟩
    · intro p hp p' hp' e
      obtain ⟨x, y, i, j, hx, hy, q, rfl⟩ := (strip_at o hL).mp hp
      obtain ⟨x', y', i', j', hx', hy', q', rfl⟩ := (strip_at o hL).mp hp'
      have I := knot_in k (L := L) (h := h) (W := t.wide - 2 * h) (H := t.high - 2 * h) (x := x) (y := y) (by omega) (by omega) hL
      have I' := knot_in k (L := L) (h := h) (W := t.wide - 2 * h) (H := t.high - 2 * h) (x := x') (y := y') (by omega) (by omega) hL
      rw [q] at I
      rw [q'] at I'
      obtain ⟨z1, z2⟩ := place_inj (I.s rfl).1 (I'.s rfl).1 e
      refine (item_eq o.r hx hy hx' hy').mp (a x y x' y' (by omega) (by omega) (by omega) (by omega) (by rw [q]; exact Nat.succ_ne_zero _) ?_)
      rw [q, q']
      simp only at z1 z2
      rw [z1, z2]
    · intro p hp p' hp' e
      obtain ⟨x, y, i, j, hx, hy, q, rfl⟩ := (corner_at o).mp hp
      obtain ⟨x', y', i', j', hx', hy', q', rfl⟩ := (corner_at o).mp hp'
      have I := knot_in k (L := L) (h := h) (W := t.wide - 2 * h) (H := t.high - 2 * h) (x := x) (y := y) (by omega) (by omega) hL
      have I' := knot_in k (L := L) (h := h) (W := t.wide - 2 * h) (H := t.high - 2 * h) (x := x') (y := y') (by omega) (by omega) hL
      rw [q] at I
      rw [q'] at I'
      obtain ⟨z1, z2⟩ := place_inj (I.c rfl).2.1 (I'.c rfl).2.1 e
      refine (item_eq o.r hx hy hx' hy').mp (a x y x' y' (by omega) (by omega) (by omega) (by omega) (by rw [q]; exact Nat.succ_ne_zero _) ?_)
      rw [q, q']
      simp only at z1 z2
      rw [z1, z2]
theorem strip_bound {t : Chart} {h : Nat} (o : RugOk t h) {k : Kind} {L : Nat} (hL : 1 ≤ L) : ∀ p ∈ stripKnots L (borderKnots t k L h), p.1 < L * h := by
  intro p hp
  have ow := o.w
  have ov := o.v
  obtain ⟨x, y, i, j, hx, hy, q, rfl⟩ := (strip_at o hL).mp hp
  have I := knot_in k (L := L) (h := h) (W := t.wide - 2 * h) (H := t.high - 2 * h) (x := x) (y := y) (by omega) (by omega) hL
  rw [q] at I
  exact place_lt (I.s rfl).1 (I.s rfl).2
theorem corner_bound {t : Chart} {h : Nat} (o : RugOk t h) {k : Kind} {L : Nat} (hL : 1 ≤ L) : ∀ p ∈ cornerKnots h (borderKnots t k L h), p.1 < h * h := by
  intro p hp
  have ow := o.w
  have ov := o.v
  obtain ⟨x, y, i, j, hx, hy, q, rfl⟩ := (corner_at o).mp hp
  have I := knot_in k (L := L) (h := h) (W := t.wide - 2 * h) (H := t.high - 2 * h) (x := x) (y := y) (by omega) (by omega) hL
  rw [q] at I
  exact place_lt (I.c rfl).2.1 (I.c rfl).2.2
/-- rows of a strip, each of its knots in the colour that the border's knots have, or colour a -/
structure IsStrip (R : List (List Int)) (k : Kind) (L h W H : Nat) (S : List (List Int)) : Prop where
  high : S.length = h
  wide : ∀ r ∈ S, r.length = L
  used : ∀ x y i j, x < W + 2 * h → y < H + 2 * h → knot k L h W H x y = (1, i, j) → item S i j = item R x y
  free : ∀ i j, i < L → j < h → (∀ x y, x < W + 2 * h → y < H + 2 * h → knot k L h W H x y ≠ (1, i, j)) → item S i j = 97
theorem item_ext {S T : List (List Int)} {L h : Nat} (h1 : S.length = h) (h2 : ∀ r ∈ S, r.length = L) (h3 : T.length = h) (h4 : ∀ r ∈ T, r.length = L) (e : ∀ i j, i < L → j < h → item S i j = item T i j) : S = T := by
  refine List.ext_getElem (h1.trans h3.symm) fun j hj hj' => ?_
  have a := h2 _ (List.getElem_mem hj)
  have b := h4 _ (List.getElem_mem hj')
  refine List.ext_getElem (a.trans b.symm) fun i hi hi' => ?_
  have z := e i j (by omega) (by omega)
  unfold item at z
  rw [List.getD_eq_getElem?_getD, List.getD_eq_getElem?_getD, List.getD_eq_getElem?_getD, List.getD_eq_getElem?_getD, List.getElem?_eq_getElem hj, List.getElem?_eq_getElem hj', Option.getD_some, Option.getD_some, List.getElem?_eq_getElem hi, List.getElem?_eq_getElem hi', Option.getD_some, Option.getD_some] at z
  exact z
theorem IsStrip.one {R S T : List (List Int)} {k : Kind} {L h W H : Nat} (a : IsStrip R k L h W H S) (b : IsStrip R k L h W H T) : S = T := by
  refine item_ext a.high a.wide b.high b.wide fun i j hi hj => ?_
  by_cases c : ∃ x y, x < W + 2 * h ∧ y < H + 2 * h ∧ knot k L h W H x y = (1, i, j)
  · obtain ⟨x, y, hx, hy, e⟩ := c
    rw [a.used x y i j hx hy e, b.used x y i j hx hy e]
  · have n : ∀ x y, x < W + 2 * h → y < H + 2 * h → knot k L h W H x y ≠ (1, i, j) := fun x y hx hy e => c ⟨x, y, hx, hy, e⟩
    rw [a.free i j hi hj n, b.free i j hi hj n]
theorem item_by {w v : Nat} {f : Nat → Nat → Nat} {i j : Nat} (hi : i < w) (hj : j < v) : item (enc (Chart.by_ w v f)) i j = bi (f i j) := by
  unfold item enc encRows Chart.by_
  simp only [List.getD_eq_getElem?_getD, List.getElem?_map, List.getElem?_range hj, List.getElem?_range hi, Option.map_some, Option.getD_some]
theorem strip_no {t : Chart} {h : Nat} (o : RugOk t h) {k : Kind} {L : Nat} (hL : 1 ≤ L) (n : ¬ (fits k L h (t.wide - 2 * h) (t.high - 2 * h) = true ∧ OneCol (enc t) k L h (t.wide - 2 * h) (t.high - 2 * h))) : stripOf t k L h = none := by
  unfold stripOf
  by_cases c : fits k L h (t.wide - 2 * h) (t.high - 2 * h) = true
  · rw [if_pos c]
    have n2 : ¬ (Alike (stripKnots L (borderKnots t k L h)) ∧ Alike (cornerKnots h (borderKnots t k L h))) := fun z => n ⟨c, (alike_strip o hL).mp z⟩
    simp only
    by_cases a : Alike (stripKnots L (borderKnots t k L h))
    · rw [gathered_none (corner_bound o hL) fun z => n2 ⟨a, z⟩]
      split
      · rename_i z; cases z
      · rfl
    · rw [gathered_none (strip_bound o hL) a]
  · rw [if_neg c]
theorem strip_yes {t : Chart} {h : Nat} (o : RugOk t h) {k : Kind} {L : Nat} (hL : 1 ≤ L) (hf : fits k L h (t.wide - 2 * h) (t.high - 2 * h) = true) (hc : OneCol (enc t) k L h (t.wide - 2 * h) (t.high - 2 * h)) :
    ∃ u, stripOf t k L h = some u ∧ IsStrip (enc t) k L h (t.wide - 2 * h) (t.high - 2 * h) (enc u) := by
  have ow := o.w
  have ov := o.v
  obtain ⟨a1, a2⟩ := (alike_strip o hL).mpr hc
  obtain ⟨v, ev, hv⟩ := gathered_some (strip_bound o hL) a1
  obtain ⟨v2, ev2, _⟩ := gathered_some (corner_bound o hL) a2
  refine ⟨Chart.by_ L h (fun (x y : Nat) => (v.getD (y * L + x) none).getD 0), ?_, ?_⟩
  · unfold stripOf
    rw [if_pos hf]
    simp only [ev, ev2]
  · refine ⟨?_, ?_, ?_, ?_⟩
    · simp [enc, encRows, Chart.by_]
    · intro r hr
      simp only [enc, encRows, Chart.by_, List.map_map, List.mem_map] at hr
      obtain ⟨y, _, rfl⟩ := hr
      simp
    · intro x y i j hx hy e
      have hx : x < t.wide := by omega
      have hy : y < t.high := by omega
      have I := knot_in k (L := L) (h := h) (W := t.wide - 2 * h) (H := t.high - 2 * h) (x := x) (y := y) (by omega) (by omega) hL
      rw [e] at I
      obtain ⟨hi, hj⟩ := I.s rfl
      rw [item_by hi hj, item_enc o.r hx hy, hv _ (place_lt hi hj)]
      have m : (j * L + i, t.at_ x y) ∈ stripKnots L (borderKnots t k L h) := (strip_at o hL).mpr ⟨x, y, i, j, hx, hy, e, rfl⟩
      cases f : firstAt (stripKnots L (borderKnots t k L h)) (j * L + i) with
      | none => exact absurd rfl (firstAt_none f _ m)
      | some c =>
        have := a1 _ (firstAt_mem f) _ m rfl
        simp only at this
        rw [this]
        rfl
    · intro i j hi hj n
      rw [item_by hi hj, hv _ (place_lt hi hj)]
      cases f : firstAt (stripKnots L (borderKnots t k L h)) (j * L + i) with
      | none => rfl
      | some c =>
        exfalso
        obtain ⟨x, y, i', j', hx, hy, q, e⟩ := (strip_at o hL).mp (firstAt_mem f)
        have I := knot_in k (L := L) (h := h) (W := t.wide - 2 * h) (H := t.high - 2 * h) (x := x) (y := y) (by omega) (by omega) hL
        rw [q] at I
        have e1 : j * L + i = j' * L + i' := congrArg Prod.fst e
        obtain ⟨z1, z2⟩ := place_inj hi (I.s rfl).1 e1
        subst z1 z2
        exact n x y (by omega) (by omega) q
/-! ### the corner of kind 0, and the field within -/
theorem corner_iff {t : Chart} {h : Nat} (o : RugOk t h) : (gathered (h * h) (cornerKnots h (borderKnots t .set 1 h))).isSome = true ↔
    ∀ x y i j, x < t.wide → y < t.high → knot .set 1 h (t.wide - 2 * h) (t.high - 2 * h) x y = (2, i, j) → item (enc t) x y = item (enc t) i j := by
  have ow := o.w
  have ov := o.v
  have o1 := o.h1
  have cor : ∀ i j, i < h → j < h → knot .set 1 h (t.wide - 2 * h) (t.high - 2 * h) i j = (2, i, j) := by
    intro i j hi hj
    unfold knot
    rw [if_neg (by omega)]
    have e : seen h (t.wide - 2 * h) (t.high - 2 * h) i j = (i, j) := if_pos (by omega)
    simp only [e]
    rw [if_pos hi]
  constructor
  · intro a x y i j hx hy e
    by_cases al : Alike (cornerKnots h (borderKnots t .set 1 h))
    · have I := knot_in .set (L := 1) (h := h) (W := t.wide - 2 * h) (H := t.high - 2 * h) (x := x) (y := y) (by omega) (by omega) (Nat.le_refl _)
      rw [e] at I
      obtain ⟨_, hi, hj⟩ := I.c rfl
      have hi : i < h := hi
      have hj : j < h := hj
      rw [item_eq o.r hx hy (by omega) (by omega)]
      exact al _ ((corner_at o).mpr ⟨x, y, i, j, hx, hy, e, rfl⟩) _ ((corner_at o).mpr ⟨i, j, i, j, by omega, by omega, cor i j hi hj, rfl⟩) rfl
    · rw [gathered_none (corner_bound o (Nat.le_refl 1)) al] at a
      cases a
  · intro a
    have al : Alike (cornerKnots h (borderKnots t .set 1 h)) := by
      intro p hp p' hp' e
      obtain ⟨x, y, i, j, hx, hy, q, rfl⟩ := (corner_at o).mp hp
      obtain ⟨x', y', i', j', hx', hy', q', rfl⟩ := (corner_at o).mp hp'
      have I := knot_in .set (L := 1) (h := h) (W := t.wide - 2 * h) (H := t.high - 2 * h) (x := x) (y := y) (by omega) (by omega) (Nat.le_refl _)
      have I' := knot_in .set (L := 1) (h := h) (W := t.wide - 2 * h) (H := t.high - 2 * h) (x := x') (y := y') (by omega) (by omega) (Nat.le_refl _)
      rw [q] at I
      rw [q'] at I'
      obtain ⟨z1, z2⟩ := place_inj (I.c rfl).2.1 (I'.c rfl).2.1 e
      simp only at z1 z2
      subst z1 z2
      exact (item_eq o.r hx hy hx' hy').mp ((a x y _ _ hx hy q).trans (a x' y' _ _ hx' hy' q').symm)
    obtain ⟨v, ev, _⟩ := gathered_some (corner_bound o (Nat.le_refl 1)) al
    rw [ev]
    rfl
/-- a cut of rows -/
def cutRows (R : List (List Int)) (x y w h : Nat) : List (List Int) := (List.range h).map fun j => (List.range w).map fun i => item R (x + i) (y + j)
theorem cut_is {t : Chart} (h : t.right = true) {x y w v : Nat} (hx : x + w ≤ t.wide) (hy : y + v ≤ t.high) : enc (t.cutOut x y w v) = cutRows (enc t) x y w v := by
  unfold Chart.cutOut Chart.by_ enc encRows cutRows
  rw [List.map_map]
  refine List.map_congr_left fun j hj => ?_
  rw [List.mem_range] at hj
  show ((List.range w).map _).map bi = _
  rw [List.map_map]
  refine List.map_congr_left fun i hi => ?_
  rw [List.mem_range] at hi
  exact (item_enc h (by omega) (by omega)).symm
theorem cut_slices {R : List (List Int)} {x y w v n : Nat} (hr : ∀ r ∈ R, r.length = n) (hx : x + w ≤ n) (hy : y + v ≤ R.length) : cutRows R x y w v = ((R.drop y).take v).map fun r => (r.drop x).take w := by
  unfold cutRows
  refine List.ext_getElem ?_ fun j hj hj' => ?_
  · simp; omega
  · have hjv : j < v := by simpa using hj
    have hjR : y + j < R.length := by omega
    have hn := hr _ (List.getElem_mem hjR)
    simp only [List.getElem_map, List.getElem_range, List.getElem_take, List.getElem_drop]
    refine List.ext_getElem ?_ fun i hi hi' => ?_
    · simp; omega
    · have hiw : i < w := by simpa using hi
      simp only [List.getElem_map, List.getElem_range, List.getElem_take, List.getElem_drop]
      unfold item
      rw [List.getD_eq_getElem?_getD, List.getD_eq_getElem?_getD, List.getElem?_eq_getElem hjR, Option.getD_some, List.getElem?_eq_getElem (by omega), Option.getD_some]
end RM
namespace RM
open Wqbbch
/-! ### from, off, corner, found, sizes: what is due, said with the program's words -/
/-- h is a depth, and 2 h less than the rug's width and height -/
def rugOk (R : List (List Int)) (h : Int) : Bool := (decide (1 ≤ h) && decide (h ≤ 128)) && (decide (2 * h < (wideOf R : Nat)) && decide (2 * h < (R.length : Nat)))
theorem rug_long {t : List Int} {h : Nat} (f : Chart → Ans) (c : 66048 < t.length) : RugDNeutral.shown (ofRug (RugDNeutral.text t) h f) = [-2] := by
  unfold ofRug ofChart
  have eT : TEXT = 66048 := rfl
  rw [text_len, eT, if_pos c]
  rfl
theorem rug_wrong {t : List Int} {h : Nat} (bt : bytesOk t) (f : Chart → Ans) (c : ¬ 66048 < t.length) (e : parse t = none) : RugDNeutral.shown (ofRug (RugDNeutral.text t) h f) = [-6] := by
  unfold ofRug ofChart
  have eT : TEXT = 66048 := rfl
  rw [text_len, eT, if_neg c, parse_none bt e]
  rfl
theorem rug_right {t : List Int} {h : Int} (f : Chart → Ans) (c : ¬ 66048 < t.length) {R : List (List Int)} (e : parse t = some R) :
    ∃ T : Chart, T.right = true ∧ R = enc T ∧ (rugOk R h = false → RugDNeutral.shown (ofRug (RugDNeutral.text t) h.toNat f) = [-1]) ∧ (rugOk R h = true → RugOk T h.toNat ∧ RugDNeutral.shown (ofRug (RugDNeutral.text t) h.toNat f) = RugDNeutral.shown (f T)) := by
  obtain ⟨T, hT, rT, rfl⟩ := parse_some e
  refine ⟨T, rT, rfl, ?_⟩
  unfold ofRug ofChart
  have eT : TEXT = 66048 := rfl
  rw [text_len, eT, if_neg c, hT]
  simp only
  have w := enc_wide rT
  have v := enc_high rT
  have eD : DEEP = 128 := rfl
  have cc : (rugOk (enc T) h = true) ↔ ¬ (deepOk h.toNat = false ∨ T.wide ≤ 2 * h.toNat ∨ T.high ≤ 2 * h.toNat) := by
    simp only [rugOk, deepOk, ← Bool.not_eq_true, Bool.and_eq_true, decide_eq_true_eq, w, v]
    omega
  constructor
  · intro d
    rw [if_pos (Decidable.not_not.mp fun z => by rw [cc.mpr z] at d; cases d)]
    rfl
  · intro d
    rw [if_neg (cc.mp d)]
    have d' := d
    simp only [rugOk, Bool.and_eq_true, decide_eq_true_eq, w, v] at d'
    exact ⟨⟨rT, by omega, by omega, by omega⟩, rfl⟩
/-- how many, and they -/
def wholeM (rows : List (List Int)) : List Int := ((flat rows).length : Int) :: flat rows
theorem shown_wholeM (c : Chart) : RugDNeutral.shown (whole c) = wholeM (enc c) := shown_whole c
def offM (h : Int) (t : List Int) : List Int := if 66048 < t.length then [-2] else match parse t with
  | none => [-6]
  | some R => if rugOk R h = true then wholeM (cutRows R h.toNat h.toNat (wideOf R - 2 * h.toNat) (R.length - 2 * h.toNat)) else [-1]
theorem off_is {h : Int} {t : List Int} (bt : bytesOk t) : PyWqbbch.off h t = offM h t := by
  show RugDNeutral.shown (ofRug (RugDNeutral.text t) h.toNat fun c => whole (c.within h.toNat)) = _
  unfold offM
  by_cases c : 66048 < t.length
  · rw [if_pos c, rug_long _ c]
  rw [if_neg c]
  cases e : parse t with
  | none => rw [rug_wrong bt _ c e]
  | some R =>
  obtain ⟨T, rT, eR, h1, h2⟩ := rug_right (h := h) (fun c => whole (c.within h.toNat)) c e
  simp only
  cases d : rugOk R h with
  | false =>
    rw [h1 d]
    rfl
  | true =>
    obtain ⟨o, q⟩ := h2 d
    have ow := o.w
    have ov := o.v
    rw [q, shown_wholeM, if_pos rfl, eR, enc_wide rT, enc_high rT]
    unfold Chart.within
    rw [cut_is rT (by omega) (by omega)]
/-- the four corners are alike, as kind 0 has them -/
def CornersOne (R : List (List Int)) (h : Nat) : Prop := ∀ x y i j, x < wideOf R → y < R.length → knot .set 1 h (wideOf R - 2 * h) (R.length - 2 * h) x y = (2, i, j) → item R x y = item R i j
/-- corner: what is due where the rug and the depth are right -/
theorem corner_due {h : Int} {t : List Int} {R : List (List Int)} (c : ¬ 66048 < t.length) (e : parse t = some R) (ok : rugOk R h = true) :
    (CornersOne R h.toNat → PyWqbbch.corner h t = wholeM (cutRows R 0 0 h.toNat h.toNat)) ∧ (¬ CornersOne R h.toNat → PyWqbbch.corner h t = [-5]) := by
  obtain ⟨T, rT, eR, _, h2⟩ := rug_right (h := h) (fun c => match cornerOf c h.toNat with
    | none => NONE
    | some u => whole u) c e
  obtain ⟨o, q⟩ := h2 ok
  have ow := o.w
  have ov := o.v
  have ci := corner_iff o
  subst eR
  have cc : CornersOne (enc T) h.toNat ↔ (gathered (h.toNat * h.toNat) (cornerKnots h.toNat (borderKnots T .set 1 h.toNat))).isSome = true := by
    rw [ci]
    unfold CornersOne
    rw [enc_wide rT, enc_high rT]
  have q' : PyWqbbch.corner h t = RugDNeutral.shown (match cornerOf T h.toNat with
    | none => NONE
    | some u => whole u) := q
  constructor
  · intro z
    rw [q']
    unfold cornerOf
    rw [if_pos (cc.mp z)]
    simp only
    rw [shown_wholeM, cut_is rT (by omega) (by omega)]
  · intro z
    rw [q']
    unfold cornerOf
    rw [if_neg fun y => z (cc.mpr y)]
    rfl
theorem corner_long {h : Int} {t : List Int} (c : 66048 < t.length) : PyWqbbch.corner h t = [-2] := rug_long _ c
theorem corner_wrong {h : Int} {t : List Int} (bt : bytesOk t) (c : ¬ 66048 < t.length) (e : parse t = none) : PyWqbbch.corner h t = [-6] := rug_wrong bt _ c e
theorem corner_bad {h : Int} {t : List Int} {R : List (List Int)} (c : ¬ 66048 < t.length) (e : parse t = some R) (ok : rugOk R h = false) : PyWqbbch.corner h t = [-1] := by
  obtain ⟨T, rT, eR, h1, _⟩ := rug_right (h := h) (fun c => match cornerOf c h.toNat with
    | none => NONE
    | some u => whole u) c e
  exact h1 ok
/-! ### found -/
/-- a strip so long makes the border -/
def Makes (R : List (List Int)) (k : Kind) (h L : Nat) : Prop := fits k L h (wideOf R - 2 * h) (R.length - 2 * h) = true ∧ OneCol R k L h (wideOf R - 2 * h) (R.length - 2 * h)
theorem found_long {h kind : Int} {t : List Int} (c : 66048 < t.length) : PyWqbbch.found h kind t = [-2] := rug_long _ c
theorem found_wrong {h kind : Int} {t : List Int} (bt : bytesOk t) (c : ¬ 66048 < t.length) (e : parse t = none) : PyWqbbch.found h kind t = [-6] := rug_wrong bt _ c e
def foundF (kind h : Nat) : Chart → Ans := fun c => match kindAt kind with
    | none => BAD
    | some k => (match foundIn c k h with
      | none => NONE
      | some u => whole u)
theorem found_eq {h kind : Int} {t : List Int} : PyWqbbch.found h kind t = RugDNeutral.shown (ofRug (RugDNeutral.text t) h.toNat (foundF kind.toNat h.toNat)) := by
  show RugDNeutral.shown (answer (.found (RugDNeutral.text t) h.toNat kind.toNat)) = _
  unfold answer
  dsimp only
  refine congrArg (fun F => RugDNeutral.shown (ofRug (RugDNeutral.text t) h.toNat F)) (funext fun c => ?_)
  unfold foundF
  cases kindAt kind.toNat with
  | none => rfl
  | some k =>
    dsimp only
    cases foundIn c k h.toNat <;> rfl
theorem found_bad {h kind : Int} {t : List Int} {R : List (List Int)} (c : ¬ 66048 < t.length) (e : parse t = some R) (ok : rugOk R h = false) : PyWqbbch.found h kind t = [-1] := by
  obtain ⟨T, rT, eR, h1, _⟩ := rug_right (h := h) (foundF kind.toNat h.toNat) c e
  rw [found_eq]
  exact h1 ok
theorem kind_at {kind : Int} (h0 : 0 ≤ kind) (h2 : kind ≤ 2) : kindAt kind.toNat = some (kk kind) := by
  have e : kind = 0 ∨ kind = 1 ∨ kind = 2 := by omega
  rcases e with rfl | rfl | rfl <;> rfl
theorem kind_none {kind : Int} (h2 : ¬ kind ≤ 2) : kindAt kind.toNat = none := by
  have e : kind.toNat = kind.toNat - 3 + 3 := by omega
  rw [e]
  rfl
theorem found_kind {h kind : Int} {t : List Int} {R : List (List Int)} (c : ¬ 66048 < t.length) (e : parse t = some R) (hk : ¬ kind ≤ 2) : PyWqbbch.found h kind t = [-1] := by
  cases ok : rugOk R h with
  | false => exact found_bad c e ok
  | true =>
    obtain ⟨T, rT, eR, _, h2⟩ := rug_right (h := h) (foundF kind.toNat h.toNat) c e
    obtain ⟨o, q⟩ := h2 ok
    have q' : PyWqbbch.found h kind t = RugDNeutral.shown (foundF kind.toNat h.toNat T) := found_eq.trans q
    rw [q']
    unfold foundF
    rw [kind_none hk]
    rfl
theorem range_first {α : Type} (f : Nat → Option α) (n L : Nat) (hL : L < n) {u : α} (h : f L = some u) (before : ∀ i, i < L → f i = none) : (List.range n).findSome? f = some u := by
  have e : List.range n = List.range L ++ L :: ((List.range (n - L - 1)).map (L + 1 + ·)) := by
    have a : n = L + (n - L) := by omega
    have b : n - L = (n - L - 1) + 1 := by omega
    conv => lhs; rw [a, List.range_add, b, List.range_succ_eq_map]
    simp only [List.map_cons, List.map_map, Nat.add_zero]
    congr 2
    refine List.map_congr_left fun i _ => ?_
    show L + (i + 1) = L + 1 + i
    omega
  rw [e, List.findSome?_append]
  have z : (List.range L).findSome? f = none := by
    rw [List.findSome?_eq_none_iff]
    intro i hi
    exact before i (List.mem_range.mp hi)
  rw [z, Option.none_or, List.findSome?_cons, h]
theorem found_yes {h kind : Int} {t : List Int} {R S : List (List Int)} {L : Nat} (c : ¬ 66048 < t.length) (e : parse t = some R) (ok : rugOk R h = true) (k0 : 0 ≤ kind) (k2 : kind ≤ 2) (l1 : 1 ≤ L) (l2 : L ≤ 512)
    (m : Makes R (kk kind) h.toNat L) (least : ∀ i, 1 ≤ i → i < L → ¬ Makes R (kk kind) h.toNat i) (s : IsStrip R (kk kind) L h.toNat (wideOf R - 2 * h.toNat) (R.length - 2 * h.toNat) S) : PyWqbbch.found h kind t = wholeM S := by
  obtain ⟨T, rT, eR, _, h2⟩ := rug_right (h := h) (foundF kind.toNat h.toNat) c e
  obtain ⟨o, q⟩ := h2 ok
  have q' : PyWqbbch.found h kind t = RugDNeutral.shown (foundF kind.toNat h.toNat T) := found_eq.trans q
  subst eR
  unfold Makes at m least
  rw [enc_wide rT, enc_high rT] at m s least
  obtain ⟨u, eu, su⟩ := strip_yes o l1 m.1 m.2
  have fi : foundIn T (kk kind) h.toNat = some u := by
    unfold foundIn
    refine range_first _ (SIDE + 1) L (by have : SIDE = 512 := rfl; omega) ?_ fun i hi => ?_
    · rw [if_neg (by omega), eu]
    · by_cases i0 : i = 0
      · rw [if_pos i0]
      · rw [if_neg i0]
        exact strip_no o (by omega) (least i (by omega) hi)
  rw [q']
  unfold foundF
  rw [kind_at k0 k2]
  simp only
  rw [fi]
  simp only
  rw [shown_wholeM, s.one su]
theorem found_no {h kind : Int} {t : List Int} {R : List (List Int)} (c : ¬ 66048 < t.length) (e : parse t = some R) (ok : rugOk R h = true) (k0 : 0 ≤ kind) (k2 : kind ≤ 2)
    (no : ∀ L, 1 ≤ L → L ≤ 512 → ¬ Makes R (kk kind) h.toNat L) : PyWqbbch.found h kind t = [-5] := by
  obtain ⟨T, rT, eR, _, h2⟩ := rug_right (h := h) (foundF kind.toNat h.toNat) c e
  obtain ⟨o, q⟩ := h2 ok
  have q' : PyWqbbch.found h kind t = RugDNeutral.shown (foundF kind.toNat h.toNat T) := found_eq.trans q
  subst eR
  unfold Makes at no
  rw [enc_wide rT, enc_high rT] at no
  have fi : foundIn T (kk kind) h.toNat = none := by
    unfold foundIn
    rw [List.findSome?_eq_none_iff]
    intro i hi
    have hi : i < SIDE + 1 := List.mem_range.mp hi
    have eS : SIDE = 512 := rfl
    by_cases i0 : i = 0
    · rw [if_pos i0]
    · rw [if_neg i0]
      exact strip_no o (by omega) (no i (by omega) (by omega))
  rw [q']
  unfold foundF
  rw [kind_at k0 k2]
  simp only
  rw [fi]
  rfl
/-! ### from -/
def fromM (kind : Int) (L h W H x y : Nat) : List Int := if inB kind L h W H = true then (if comesOut kind L h W H = true then (if x < W + 2 * h ∧ y < H + 2 * h then [0, ((knot (kk kind) L h W H x y).1 : Nat), ((knot (kk kind) L h W H x y).2.1 : Nat), ((knot (kk kind) L h W H x y).2.2 : Nat)] else [-4]) else [-3]) else [-1]
theorem bounds_iff {L h W H : Nat} : (one L = true ∧ deepOk h = true ∧ one W = true ∧ one H = true) ↔ ((decide (1 ≤ h) && decide (h ≤ 128)) && (sideI L && (sideI W && sideI H))) = true := by
  simp only [one, deepOk, sideI, Bool.and_eq_true, decide_eq_true_eq]
  have a : SIDE = 512 := rfl
  have b : DEEP = 128 := rfl
  omega
theorem from_is {kind : Int} {L h W H x y : Nat} (k0 : 0 ≤ kind) : PyWqbbch.from_of kind L h W H x y = fromM kind L h W H x y := by
  show RugDNeutral.shown (answer (.from_ kind.toNat L h W H x y)) = _
  unfold answer
  dsimp only
  unfold ofKind fromM
  by_cases hk : kind ≤ 2
  · rw [kind_at k0 hk]
    simp only
    have ib : inB kind L h W H = ((decide (1 ≤ h) && decide (h ≤ 128)) && (sideI L && (sideI W && sideI H))) := by
      unfold inB
      rw [decide_eq_true hk, Bool.true_and]
    rw [ib, comes_fits]
    by_cases c : one L = true ∧ deepOk h = true ∧ one W = true ∧ one H = true
    · rw [if_pos c, if_pos (bounds_iff.mp c)]
      cases d : comesOut kind L h W H with
      | false => rfl
      | true =>
        show RugDNeutral.shown (if x < W + 2 * h ∧ y < H + 2 * h then tells 0 (fromTold (fromOf (kk kind) L h W H x y)) else NO) = if x < W + 2 * h ∧ y < H + 2 * h then _ else _
        by_cases e : x < W + 2 * h ∧ y < H + 2 * h
        · rw [if_pos e, if_pos e]
          have cb := bounds_iff.mp c
          simp only [sideI, Bool.and_eq_true, decide_eq_true_eq] at cb
          rw [← knot_is (kk kind) L h W H x y e.1 e.2 (by omega) (by omega) (by omega)]
          cases fromOf (kk kind) L h W H x y <;> rfl
        · rw [if_neg e, if_neg e]
          rfl
    · rw [if_neg c, if_neg fun z => c (bounds_iff.mpr z)]
      rfl
  · rw [kind_none hk]
    have ib : inB kind L h W H = false := by
      unfold inB
      rw [decide_eq_false hk]
      rfl
    rw [ib]
    rfl
end RM
/-! ### the text by places -/
namespace RH
open PySem PySem.Spec PyProof.Rows L2
open PySem.W (Codec WData)
open RM
def top (i : Nat) : Stmt := PySem.Challenge.pw_rugborders_s04_off.main.body.getD i (.Pass ⟨0, 0, 0, 0⟩)
abbrev sLong : Stmt := top 5
abbrev sCol : Stmt := top 6
abbrev sSide : Stmt := top 7
abbrev sSize : Stmt := top 8
abbrev sIsCh : Stmt := top 9
abbrev sChart : Stmt := top 10
abbrev sDep : Stmt := top 17
abbrev sLeaves : Stmt := top 18
abbrev sRead : Stmt := top 16
abbrev sText : Stmt := top 11
abbrev sTold : Stmt := top 15
abbrev sWithin : Stmt := top 19
abbrev sOff : Stmt := top 14
/-! ### charts in the heap -/
inductive RowsAt (H : Hp) : List Addr → List (List Int) → Prop
  | nil : RowsAt H [] []
  | cons {a : Addr} {r : List Int} {as : List Addr} {rs : List (List Int)} : H a = some (.lst (r.map V.int)) → RowsAt H as rs → RowsAt H (a :: as) (r :: rs)
theorem RowsAt.len {H : Hp} : ∀ {as : List Addr} {rs : List (List Int)}, RowsAt H as rs → as.length = rs.length
  | _, _, .nil => rfl
  | _, _, .cons _ h => congrArg (· + 1) h.len
theorem RowsAt.same {H H' : Hp} (s : Same H H') : ∀ {as : List Addr} {rs : List (List Int)}, RowsAt H as rs → RowsAt H' as rs
  | _, _, .nil => .nil
  | _, _, .cons e h => .cons (s _ _ e) (h.same s)
theorem RowsAt.push {H : Hp} {a : Addr} {r : List Int} (e : H a = some (.lst (r.map V.int))) : ∀ {as : List Addr} {rs : List (List Int)}, RowsAt H as rs → RowsAt H (as ++ [a]) (rs ++ [r])
  | _, _, .nil => .cons e .nil
  | _, _, .cons e' h => .cons e' (h.push e)
theorem RowsAt.upd {H : Hp} {p : Addr} {o : HO} : ∀ {as : List Addr} {rs : List (List Int)}, RowsAt H as rs → p ∉ as → RowsAt (upd H p o) as rs
  | _, _, .nil, _ => .nil
  | _, _, .cons e h, n => .cons (by rw [upd_ne (fun z => n (by rw [z]; exact List.mem_cons_self ..))]; exact e) (h.upd fun z => n (List.mem_cons_of_mem _ z))
theorem RowsAt.get {H : Hp} : ∀ {as : List Addr} {rs : List (List Int)} {i : Nat} {a : Addr}, RowsAt H as rs → as[i]? = some a → ∃ r, rs[i]? = some r ∧ H a = some (.lst (r.map V.int))
  | _, _, i, a, .nil, h => by simp at h
  | _, _, 0, a, .cons e _, h => by
    have z := Option.some.inj h
    subst z
    exact ⟨_, rfl, e⟩
  | _, _, i + 1, a, .cons _ h', h => RowsAt.get (i := i) h' h
theorem RowsAt.mem {H : Hp} : ∀ {as : List Addr} {rs : List (List Int)} {a : Addr}, RowsAt H as rs → a ∈ as → ∃ o, H a = some o
  | _, _, a, .nil, h => by cases h
  | _, _, a, .cons e h', h => by
    rcases List.mem_cons.mp h with z | z
    · subst z
      exact ⟨_, e⟩
    · exact h'.mem z
def ChartAt (H : Hp) (a : Addr) (rs : List (List Int)) : Prop := ∃ as : List Addr, H a = some (.lst (as.map V.ref)) ∧ RowsAt H as rs
theorem ChartAt.same {H H' : Hp} (s : Same H H') {a : Addr} {rs : List (List Int)} (h : ChartAt H a rs) : ChartAt H' a rs := by
  obtain ⟨as, e, r⟩ := h
  exact ⟨as, s _ _ e, r.same s⟩
theorem same_new {H : Hp} {p : Addr} (h : H p = none) (o : HO) : Same H (upd H p o) := fun b u q => by rw [upd_ne (ne_of_none q h)]; exact q
/-- what was tracked at first stands, though an object made since is changed -/
theorem same_put {H H' : Hp} {p : Addr} (s : Same H H') (h : H p = none) (o : HO) : Same H (upd H' p o) := fun b u q => by rw [upd_ne (ne_of_none q h)]; exact s b u q
theorem map_at {α : Type} {f : α → V} {l : List α} {i : Nat} {y : V} (hi : (l.map f)[i]? = some y) : ∃ z, l[i]? = some z ∧ y = f z := by
  rw [List.getElem?_map] at hi
  cases e : l[i]? with
  | none => rw [e] at hi; cases hi
  | some z => rw [e] at hi; exact ⟨z, rfl, (Option.some.inj hi).symm⟩
theorem drop_at {α : Type} {l : List α} {i : Nat} {z : α} (h : l[i]? = some z) : l.drop i = z :: l.drop (i + 1) := by
  obtain ⟨hi, e⟩ := List.getElem?_eq_some_iff.mp h
  rw [← e]
  exact List.drop_eq_getElem_cons hi
/-! ### numbers -/
def sideZ (n : Int) : Bool := decide (1 ≤ n) && decide (n ≤ 512)
def sizeZ (w h : Int) : Bool := sideZ w && (sideZ h && decide (w * h ≤ 65536))
def inZ (kind L h W Hh : Int) : Bool := (decide (kind ≤ 2) && (decide (1 ≤ h) && decide (h ≤ 128))) && (sideZ L && (sideZ W && sideZ Hh))
def outZ (kind L h W Hh : Int) : Bool := if kind = 0 then decide (W % L = 0) && decide (Hh % L = 0) else if kind = 1 then decide ((W + 2 * h) % (2 * L) = 0) && decide ((Hh + 2 * h) % (2 * L) = 0) else decide ((W + h) % L = 0) && decide ((Hh + h) % L = 0)
theorem side_nat (n : Nat) : sideZ (n : Int) = sideI n := by
  rw [Bool.eq_iff_iff]
  simp only [sideZ, sideI, Bool.and_eq_true, decide_eq_true_eq]
  omega
theorem size_nat (w h : Nat) : sizeZ (w : Int) (h : Int) = sizeOkI w h := by
  have e : ((w : Int) * (h : Int) ≤ 65536) ↔ w * h ≤ 65536 := by
    rw [← Int.natCast_mul]
    omega
  rw [Bool.eq_iff_iff]
  simp only [sizeZ, sizeOkI, sideZ, Bool.and_eq_true, decide_eq_true_eq, e]
  omega
theorem in_nat (kind : Int) (L h W Hh : Nat) : inZ kind L h W Hh = inB kind L h W Hh := by
  rw [Bool.eq_iff_iff]
  simp only [inZ, inB, sideZ, sideI, Bool.and_eq_true, decide_eq_true_eq]
  omega
theorem mod_nat (a b : Nat) : decide (((a : Nat) : Int) % ((b : Nat) : Int) = 0) = decide (a % b = 0) := by
  rw [← Int.natCast_emod]
  rw [Bool.eq_iff_iff]
  simp only [decide_eq_true_eq]
  omega
theorem out_nat (kind : Int) (L h W Hh : Nat) : outZ kind L h W Hh = comesOut kind L h W Hh := by
  unfold outZ comesOut
  have e1 : ((W : Int) + 2 * (h : Int)) = ((W + 2 * h : Nat) : Int) := by omega
  have e2 : ((Hh : Int) + 2 * (h : Int)) = ((Hh + 2 * h : Nat) : Int) := by omega
  have e3 : (2 * (L : Int)) = ((2 * L : Nat) : Int) := by omega
  have e4 : ((W : Int) + (h : Int)) = ((W + h : Nat) : Int) := by omega
  have e5 : ((Hh : Int) + (h : Int)) = ((Hh + h : Nat) : Int) := by omega
  rw [e1, e2, e3, e4, e5]
  simp only [mod_nat]
theorem pe_gi {X : Cx} {x : Str} {i : Int} {t : Tok} {pos : Pos} (hg : Gl X x) (hm : X.mg x = some (.int i t)) (hd : (x == ("__debug__" : Str)) = false := by decide) : PE X (.Name x pos) (tC (.int i)) := pe_glob (v := .int i) hg hm ⟨t, rfl⟩ hd
theorem dvi (a b : Int) : decide (V.int a = V.int b) = decide (a = b) := by
  rw [Bool.eq_iff_iff]
  simp only [decide_eq_true_eq]
  exact ⟨fun h => V.int.inj h, fun h => congrArg V.int h⟩
theorem bl_of {Q : VK} {H : Hp} {c d : Bool} (q : Q (.bl c) H) (e : c = d) : Q (.bl d) H := e ▸ q
theorem at_zero {α : Type} (x : α) (l : List α) : atI (x :: l) 0 = some x := atI_nat (j := 0) rfl
theorem line_small {n : Nat} (h : n ≤ 1000000) : n < sizeLine := Nat.lt_of_le_of_lt h (by rw [sizeLine_eq]; decide)
theorem take_more {α : Type} {l : List α} {i : Nat} {x : α} (h : l[i]? = some x) : l.take (i + 1) = l.take i ++ [x] := by
  rw [List.take_add_one, h]
  rfl
theorem PE.weak {X : Cx} {e : Expr} {t t' : TE} (h : PE X e t) (w : ∀ σ H Q, t' σ H Q → t σ H Q) : PE X e t' := ⟨fun pins s σ H Q I hw => h.run pins s σ H Q I (w σ H Q hw)⟩
theorem se_name (x : Str) (p : Pos) (es : List Expr) (env : Env) : starEach (.Name x p :: es) env = (false, eval (.Name x p) env) :: starEach es env := rfl
theorem pn {X : Cx} (i : Nat) {x : Str} {p : Pos} {es : List Expr} {t : TA} (hr : PA X es t) (hN : X.N[i]? = some x := by rfl) (hv : Vis X.env.scope x := by first | exact Or.inl rfl | exact Or.inr (Or.inl rfl) | exact Or.inr (Or.inr rfl)) (hd : (x == ("__debug__" : Str)) = false := by decide)
    (hcd : (x == ("__classdict__" : Str)) = false := by decide) : PA X (.Name x p :: es) (tCons (tVar i) t) := pa_cons (pe_var hN hv hd hcd) hr (se_name _ _ _ _)
structure Defs (K : PySem.W.Frag) (P : Program) (w : World) (mg : Str → Option Value) (base : Heap) (k : Nat) (x : Str) (ps : List Str) (sp : Sp) (f : Addr) (fd : FuncData) : Prop where
  G : FnOk P w K mg base CX0 k f fd ps sp
  b : Binds K fd ps []
  kp : PySem.W.keepIn K (.ref f) = true
  m : mg x = some (.ref f)
theorem PT.weak {X : Cx} {e : Expr} {t t' : TT} (h : PT X e t) (w : ∀ σ H Q, t' σ H Q → t σ H Q) : PT X e t' := ⟨fun pins s σ H Q I hw => h.run pins s σ H Q I (w σ H Q hw)⟩
theorem at_one {α : Type} (x y : α) (l : List α) : atI (x :: y :: l) 1 = some y := atI_nat (j := 1) rfl
theorem at_two {α : Type} (x y z : α) (l : List α) : atI (x :: y :: z :: l) 2 = some z := atI_nat (j := 2) rfl
section
variable {P : Program} {w : World} {K : PySem.W.Frag} {mg : Str → Option Value} {base : Heap} {f : Addr} {fd : FuncData}
def spLong (K : PySem.W.Frag) : Sp := fun vs H Q _ => ∃ (a : Addr) (xs : List V), vs = [.ref a] ∧ SqL K H a xs ∧ Q (.bl (decide ((66048 : Int) < (xs.length : Nat)))) H
theorem scLong : FnScope ["text"] ["text"] (defScope sLong) := ⟨rfl, rfl, rfl, by decide +kernel, rfl, by decide +kernel, by decide +kernel⟩
theorem ok_long {t : Tok} (F : Fun K "is_too_long" "is_too_long" sLong f fd) (ml : mg "len" = none) (mB : mg "MOST_BYTES" = some (.int 66048 t)) : FnOk P w K mg base CX0 1 f fd ["text"] (spLong K) := by
  refine F.ok scLong (fun vs H Q E h => ?_) (fun cdv A outer s H vs Q E hr h => ?_)
  · obtain ⟨a, xs, rfl, _⟩ := h
    rfl
  obtain ⟨a, xs, rfl, hS, q⟩ := h
  refine ⟨_, pss_one (ps_ret (pe_cmpR op_gt (pe_callB call_len_seq rfl ml PySem.boot_len (pa_cons (pv 0) pa_nil)) (pe_gi rfl mB) (nomark _))), ?_⟩
  exact ⟨_, rfl, a, _, rfl, .inl hS, _, _, rfl, rfl, q⟩
theorem long_iff {xs : List Int} : decide ((66048 : Int) < (((xs.map V.int).length : Nat) : Int)) = decide (66048 < xs.length) := by
  rw [List.length_map, Bool.eq_iff_iff]
  simp only [decide_eq_true_eq]
  omega
def spCol : Sp := fun vs H Q _ => ∃ b : Int, vs = [.int b] ∧ Q (.bl (isCol b)) H
theorem scCol : FnScope ["byte"] ["byte"] (defScope sCol) := ⟨rfl, rfl, rfl, by decide +kernel, rfl, by decide +kernel, by decide +kernel⟩
theorem col_of {b : Int} {c : Bool} {Q : VK} {H : Hp} (q : Q (.bl (isCol b)) H) (e : isCol b = true ↔ c = true) : Q (.bl c) H := by
  rw [← Bool.eq_iff_iff.mpr e]
  exact q
theorem isCol_iff {b : Int} : isCol b = true ↔ (97 ≤ b ∧ b ≤ 122) ∨ (65 ≤ b ∧ b ≤ 90) ∨ (48 ≤ b ∧ b ≤ 57) := by
  simp only [isCol, Bool.or_eq_true, Bool.and_eq_true, decide_eq_true_eq]
theorem ok_col (F : Fun K "is_colour" "is_colour" sCol f fd) : FnOk P w K mg base CX0 1 f fd ["byte"] spCol := by
  refine F.ok scCol (fun vs H Q E h => ?_) (fun cdv A outer s H vs Q E hr h => ?_)
  · obtain ⟨b, rfl, _⟩ := h
    rfl
  obtain ⟨b, rfl, q⟩ := h
  refine ⟨_, pss_one (ps_ret (pe_or (pe_chain op_le op_le pe_int (pv 0) pe_int) (pe_or (pe_chain op_le op_le pe_int (pv 0) pe_int) (pe_one (pe_chain op_le op_le pe_int (pv 0) pe_int))))), ?_⟩
  have last : ∀ c : Bool, (isCol b = true ↔ c = true) → Q (.bl c) H := fun c e => col_of q e
  have dd : ∀ {p : Prop} [Decidable p], (decide p = true) ↔ p := fun {p} _ => decide_eq_true_iff
  -- a chain: ahead of its end
  refine ⟨_, rfl, _, _, rfl, rfl, _, rfl, ite2 (fun c => ?_) (fun c => ?_)⟩
  · have c := of_decide_eq_true c
    refine ⟨_, _, rfl, rfl, _, rfl, ite2 (fun d => ?_) (fun d => ?_)⟩
    · have d := of_decide_eq_true d
      exact last true ⟨fun _ => rfl, fun _ => isCol_iff.mpr (by omega)⟩
    · have d : ¬ b ≤ 122 := fun z => d (decide_eq_true z)
      refine ⟨_, rfl, _, _, rfl, rfl, _, rfl, ite2 (fun c2 => ?_) (fun c2 => ?_)⟩
      · refine ⟨_, _, rfl, rfl, _, rfl, ite2 (fun d2 => ?_) (fun d2 => ?_)⟩
        · have d2 : b ≤ 90 := of_decide_eq_true d2
          omega
        · refine ⟨_, rfl, _, _, rfl, rfl, _, rfl, ite2 (fun c3 => ?_) (fun c3 => ?_)⟩
          · refine ⟨_, _, rfl, rfl, ?_⟩
            exact last _ (by rw [isCol_iff, dd]; omega)
          · have c3 : ¬ 48 ≤ b := fun z => c3 (decide_eq_true z)
            omega
      · have c2 : ¬ 65 ≤ b := fun z => c2 (decide_eq_true z)
        omega
  · have c : ¬ 97 ≤ b := fun z => c (decide_eq_true z)
    refine ⟨_, rfl, iteF ?_⟩
    refine ⟨_, rfl, _, _, rfl, rfl, _, rfl, ite2 (fun c2 => ?_) (fun c2 => ?_)⟩
    · have c2 : 65 ≤ b := of_decide_eq_true c2
      refine ⟨_, _, rfl, rfl, _, rfl, ite2 (fun d2 => ?_) (fun d2 => ?_)⟩
      · have d2 : b ≤ 90 := of_decide_eq_true d2
        exact last true ⟨fun _ => rfl, fun _ => isCol_iff.mpr (by omega)⟩
      · have d2 : ¬ b ≤ 90 := fun z => d2 (decide_eq_true z)
        refine ⟨_, rfl, _, _, rfl, rfl, _, rfl, ite2 (fun c3 => ?_) (fun c3 => ?_)⟩
        · refine ⟨_, _, rfl, rfl, ?_⟩
          exact last _ (by rw [isCol_iff, dd]; omega)
        · have c3 : ¬ 48 ≤ b := fun z => c3 (decide_eq_true z)
          omega
    · have c2 : ¬ 65 ≤ b := fun z => c2 (decide_eq_true z)
      refine ⟨_, rfl, iteF ?_⟩
      refine ⟨_, rfl, _, _, rfl, rfl, _, rfl, ite2 (fun c3 => ?_) (fun c3 => ?_)⟩
      · have c3 : 48 ≤ b := of_decide_eq_true c3
        refine ⟨_, _, rfl, rfl, ?_⟩
        exact last _ (by rw [isCol_iff, dd]; omega)
      · have c3 : ¬ 48 ≤ b := fun z => c3 (decide_eq_true z)
        exact last _ (by rw [isCol_iff]; simp only [Bool.false_eq_true, iff_false]; omega)
def spSide : Sp := fun vs H Q _ => ∃ n : Int, vs = [.int n] ∧ Q (.bl (sideZ n)) H
theorem scSide : FnScope ["number"] ["number"] (defScope sSide) := ⟨rfl, rfl, rfl, by decide +kernel, rfl, by decide +kernel, by decide +kernel⟩
theorem ok_side {t : Tok} (F : Fun K "is_side" "is_side" sSide f fd) (mS : mg "MOST_SIDE" = some (.int 512 t)) : FnOk P w K mg base CX0 1 f fd ["number"] spSide := by
  refine F.ok scSide (fun vs H Q E h => ?_) (fun cdv A outer s H vs Q E hr h => ?_)
  · obtain ⟨b, rfl, _⟩ := h
    rfl
  obtain ⟨b, rfl, q⟩ := h
  refine ⟨_, pss_one (ps_ret (pe_chain op_le op_le pe_int (pv 0) (pe_gi rfl mS))), ?_⟩
  unfold sideZ at q
  refine ⟨_, rfl, _, _, rfl, rfl, _, rfl, ite2 (fun c => ?_) (fun c => ?_)⟩
  · rw [c] at q
    exact ⟨_, _, rfl, rfl, q⟩
  · rw [Bool.eq_false_iff.mpr c] at q
    exact q
def spSize : Sp := fun vs H Q _ => ∃ w h : Int, vs = [.int w, .int h] ∧ Q (.bl (sizeZ w h)) H
theorem scSize : FnScope ["width", "height"] ["width", "height"] (defScope sSize) := ⟨rfl, rfl, rfl, by decide +kernel, rfl, by decide +kernel, by decide +kernel⟩
theorem ok_size {t : Tok} {fS : Addr} {fdS : FuncData} (F : Fun K "is_chart_size" "is_chart_size" sSize f fd) (G : FnOk P w K mg base CX0 1 fS fdS ["number"] spSide) (bS : Binds K fdS ["number"] []) (kS : PySem.W.keepIn K (.ref fS) = true) (mS : mg "is_side" = some (.ref fS)) (mK : mg "MOST_KNOTS" = some (.int 65536 t)) : FnOk P w K mg base CX0 2 f fd ["width", "height"] spSize := by
  refine F.ok scSize (fun vs H Q E h => ?_) (fun cdv A outer s H vs Q E hr h => ?_)
  · obtain ⟨a, b, rfl, _⟩ := h
    rfl
  obtain ⟨a, b, rfl, q⟩ := h
  refine ⟨_, pss_one (ps_ret (pe_and (pe_call G hr rfl mS kS bS .nil pass0 (pa_cons (pv 0) pa_nil)) (pe_and (pe_call G hr rfl mS kS bS .nil pass0 (pa_cons (pv 1) pa_nil)) (pe_one (pe_cmpR op_le (pe_op op_mul (pv 0) (pv 1)) (pe_gi rfl mK) (nomark _)))))), ?_⟩
  unfold sizeZ at q
  refine ⟨_, rfl, a, rfl, _, rfl, ite2 (fun c => ?_) (fun c => ?_)⟩
  · rw [c] at q
    refine ⟨_, rfl, b, rfl, _, rfl, ite2 (fun d => ?_) (fun d => ?_)⟩
    · rw [d] at q
      have c' : 1 ≤ a ∧ a ≤ 512 := by simpa only [sideZ, Bool.and_eq_true, decide_eq_true_eq] using c
      exact ⟨_, rfl, _, rfl, _, _, rfl, rfl, .inl ⟨by omega, by omega⟩, _, _, rfl, rfl, q⟩
    · rw [Bool.eq_false_iff.mpr d] at q
      exact q
  · rw [Bool.eq_false_iff.mpr c] at q
    exact q
def spIsCh (K : PySem.W.Frag) : Sp := fun vs H Q _ => ∃ (a : Addr) (as : List Addr) (rs : List (List Int)), vs = [.ref a] ∧ SqL K H a (as.map V.ref) ∧ RowsAt H as rs ∧ Q (.bl (isChart rs)) H
theorem scIsCh : FnScope ["rows", "width", "row"] ["rows"] (defScope sIsCh) := ⟨rfl, rfl, rfl, by decide +kernel, rfl, by decide +kernel, by decide +kernel⟩
theorem ok_isCh {fS : Addr} {fdS : FuncData} (F : Fun K "is_chart" "is_chart" sIsCh f fd) (G : FnOk P w K mg base CX0 2 fS fdS ["width", "height"] spSize) (bS : Binds K fdS ["width", "height"] []) (kS : PySem.W.keepIn K (.ref fS) = true) (mS : mg "is_chart_size" = some (.ref fS)) (ml : mg "len" = none) :
    FnOk P w K mg base CX0 3 f fd ["rows"] (spIsCh K) := by
  refine F.ok scIsCh (fun vs H Q E h => ?_) (fun cdv A outer s H vs Q E hr h => ?_)
  · obtain ⟨a, as, rs, rfl, _⟩ := h
    rfl
  obtain ⟨a, as, rs, rfl, hS, hR, q⟩ := h
  refine ⟨_, pss_cons (ps_if (pt_not (pt_truth (pv 0) (by intro _; rfl))) (pss_one (ps_ret pe_bl)) pss_nil)
    (pss_cons (ps_set (i := 1) scIsCh.nd rfl (.inl rfl) (pe_callB call_len_seq rfl ml PySem.boot_len (pa_cons (pe_ix ix_list (pv 0) pe_int (fun _ _ => rfl)) pa_nil)))
    (pss_cons (ps_for PassesOwn.never rfl (pi_list (pv 0)) (pg_name (i := 2) scIsCh.nd rfl (.inl rfl)) (pss_one (ps_if (pt_cmpR op_ne (pe_callB call_len_seq rfl ml PySem.boot_len (pa_cons (pv 2) pa_nil)) (pv 1) (nomark _)) (pss_one (ps_ret pe_bl)) pss_nil)))
    (pss_one (ps_ret (pe_call G hr rfl mS kS bS .nil pass0 (pa_cons (pv 1) (pa_cons (pe_callB call_len_seq rfl ml PySem.boot_len (pa_cons (pv 0) pa_nil)) pa_nil))))))), ?_⟩
  have hl := hR.len
  refine ⟨_, rfl, _, .inl ⟨_, hS, rfl⟩, ?_⟩
  cases hR with
  | nil => exact iteT q
  | cons e0 hR' =>
  rename_i a0 r0 as' rs'
  refine iteF ?_
  refine ⟨_, rfl, a, _, 0, .ref a0, rfl, rfl, hS, at_zero _ _, a0, _, rfl, .inl (SqL.of e0), ?_⟩
  have hRR : RowsAt H (a0 :: as') (r0 :: rs') := .cons e0 hR'
  have e0l : (r0.map V.int).length = r0.length := List.length_map _
  refine ⟨_, rfl, a, rfl, ⟨_, hS⟩, for_list (K := K) (a := a) (xs := (a0 :: as').map V.ref) (fun i σ H' => ∃ v : Option V, σ = [some (.ref a), some (.int (r0.length : Nat)), v] ∧ H' = H ∧ ∀ j r, j < i → (r0 :: rs')[j]? = some r → r.length = r0.length)
    ⟨none, by rw [e0l]; rfl, rfl, fun j r hj => absurd hj (Nat.not_lt_zero _)⟩ (fun i σ H' _ ⟨_, _, e, _⟩ => by rw [e]; exact hS) ?_ ?_⟩
  · rintro i y σ H' hi ⟨v, rfl, rfl, hall⟩
    obtain ⟨b, hb, rfl⟩ := map_at hi
    obtain ⟨r, hr1, hr2⟩ := hRR.get hb
    have erl : (r.map V.int).length = r.length := List.length_map _
    refine ⟨_, rfl, b, _, rfl, .inl (SqL.of hr2), _, rfl, rfl, _, rfl, ?_⟩
    rw [dvi, erl]
    by_cases c : r.length = r0.length
    · rw [decide_eq_true (show ((r.length : Nat) : Int) = ((r0.length : Nat) : Int) by omega)]
      refine iteF ⟨some (.ref b), rfl, rfl, fun j r' hj hr' => ?_⟩
      by_cases hji : j = i
      · subst hji
        rw [hr1] at hr'
        cases hr'
        exact c
      · exact hall j r' (by omega) hr'
    · rw [decide_eq_false (show ¬ ((r.length : Nat) : Int) = ((r0.length : Nat) : Int) by omega)]
      refine iteT ?_
      refine bl_of q ?_
      unfold isChart
      have z : (r0 :: rs').all (fun r => decide (r.length = wideOf (r0 :: rs'))) = false := by
        rw [Bool.eq_false_iff]
        intro z
        rw [List.all_eq_true] at z
        have := z r (List.mem_of_getElem? hr1)
        exact c (of_decide_eq_true this)
      rw [z, Bool.and_false, Bool.false_and]
  · rintro σ H' ⟨v, rfl, rfl, hall⟩
    refine ⟨_, rfl, _, rfl, a, _, rfl, .inl hS, (r0.length : Nat), _, rfl, ?_⟩
    have z : (r0 :: rs').all (fun r => decide (r.length = wideOf (r0 :: rs'))) = true := by
      rw [List.all_eq_true]
      intro r hr'
      obtain ⟨j, hj⟩ := List.getElem?_of_mem hr'
      have hjl : j < (r0 :: rs').length := (List.getElem?_eq_some_iff.mp hj).1
      exact decide_eq_true (hall j r (by rw [List.length_map, hl]; exact hjl) hj)
    refine bl_of q ?_
    unfold isChart
    rw [z, List.length_map, hl, size_nat]
    rfl
/-! ### chart_of -/
/-- what a text's reading hands back: None, or a chart -/
def OptCh (H : Hp) (x : V) (o : Option (List (List Int))) : Prop := (x = .non ∧ o = none) ∨ ∃ p rs, x = .ref p ∧ o = some rs ∧ ChartAt H p rs
theorem OptCh.same {H H' : Hp} (s : Same H H') {x : V} {o : Option (List (List Int))} (h : OptCh H x o) : OptCh H' x o := by
  rcases h with h | ⟨p, rs, e1, e2, c⟩
  · exact .inl h
  · exact .inr ⟨p, rs, e1, e2, c.same s⟩
def spChart (K : PySem.W.Frag) : Sp := fun vs H Q _ => ∃ (a : Addr) (ns : List Int), vs = [.ref a] ∧ SqL K H a (ns.map V.int) ∧ ns.length ≤ 66048 ∧ ∀ x H', Same H H' → OptCh H' x (parse ns) → Q x H'
structure ReadAt (H H' : Hp) (pr pq : Addr) (rows : List (List Int)) (row : List Int) : Prop where
  same : Same H H'
  nr : H pr = none
  nq : H pq = none
  ne : pr ≠ pq
  ch : ∃ as : List Addr, H' pr = some (.lst (as.map V.ref)) ∧ RowsAt H' as rows ∧ pq ∉ as ∧ pr ∉ as
  at_ : H' pq = some (.lst (row.map V.int))
theorem scChart : FnScope ["text", "rows", "row", "byte"] ["text"] (defScope sChart) := ⟨rfl, rfl, rfl, by decide +kernel, rfl, by decide +kernel, by decide +kernel⟩
theorem ok_chart {t : Tok} {fC fI : Addr} {fdC fdI : FuncData} (F : Fun K "chart_of" "chart_of" sChart f fd) (GC : FnOk P w K mg base CX0 1 fC fdC ["byte"] spCol) (bC : Binds K fdC ["byte"] []) (kC : PySem.W.keepIn K (.ref fC) = true) (mC : mg "is_colour" = some (.ref fC))
    (GI : FnOk P w K mg base CX0 3 fI fdI ["rows"] (spIsCh K)) (bI : Binds K fdI ["rows"] []) (kI : PySem.W.keepIn K (.ref fI) = true) (mI : mg "is_chart" = some (.ref fI)) (mE : mg "ROW_END" = some (.int 10 t)) :
    FnOk P w K mg base CX0 4 f fd ["text"] (spChart K) := by
  refine F.ok scChart (fun vs H Q E h => ?_) (fun cdv A outer s H vs Q E hr h => ?_)
  · obtain ⟨a, ns, rfl, _⟩ := h
    rfl
  obtain ⟨a, ns, rfl, hS, hlen, q⟩ := h
  have qN : parse ns = none → ∀ H', Same H H' → Q .non H' := fun e H' s => q _ _ s (.inl ⟨rfl, e⟩)
  have qS : ∀ rs, parse ns = some rs → ∀ p H', Same H H' → ChartAt H' p rs → Q (.ref p) H' := fun rs e p H' s c => q _ _ s (.inr ⟨p, rs, rfl, e, c⟩)
  have hr1 : Room 1 _ := hr.mono (by decide)
  refine ⟨_, pss_cons (ps_set (i := 1) scChart.nd rfl (.inl rfl) (pe_lst pa_nil)) (pss_cons (ps_set (i := 2) scChart.nd rfl (.inl rfl) (pe_lst pa_nil))
    (pss_cons (ps_for PassesOwn.never rfl (pi_list (pv 0)) (pg_name (i := 3) scChart.nd rfl (.inl rfl))
      (pss_one (ps_if (pt_cmpR op_eq (pv 3) (pe_gi rfl mE) (nomark _))
        (pss_cons (ps_expr (pe_bm PySem.F.plainAttrs_list PySem.F.slot_list_append PySem.F.type_list_append mt_append (pv 1) (pa_cons (pv 2) pa_nil))) (pss_one (ps_set (i := 2) scChart.nd rfl (.inl rfl) (pe_lst pa_nil))))
        (pss_one (ps_if (pt_val (pe_call GC hr1 rfl mC kC bC .nil pass0 (pa_cons (pv 3) pa_nil))) (pss_one (ps_expr (pe_bm PySem.F.plainAttrs_list PySem.F.slot_list_append PySem.F.type_list_append mt_append (pv 2) (pa_cons (pv 3) pa_nil)))) (pss_one (ps_ret pe_non)))))))
    (pss_cons (ps_if (PW.pt (pw_or (pt_truth (pv 2) (by intro _; rfl)) (pw_or1 (pt_not (pt_val (pe_call GI hr rfl mI kI bI .nil pass0 (pa_cons (pv 1) pa_nil))))))) (pss_one (ps_ret pe_non)) pss_nil)
    (pss_one (ps_ret (pv 1)))))), ?_⟩
  refine ⟨(by show 0 ≤ sizeLine; decide), fun pr hpr => ⟨(by show 0 ≤ sizeLine; decide), fun pq hpq => ?_⟩⟩
  have nrq : pr ≠ pq := ne_of_none upd_same hpq
  have hpq0 : H pq = none := by rw [upd_ne (Ne.symm nrq)] at hpq; exact hpq
  have s0 : Same H (upd (upd H pr (.lst [])) pq (.lst [])) := (same_new hpr _).trans (same_new hpq _)
  refine ⟨_, rfl, a, rfl, ⟨_, s0.seq hS⟩, for_list (K := K) (a := a) (xs := ns.map V.int) (fun i σ H' => ∃ (pq : Addr) (v : Option V) (rows : List (List Int)) (row : List Int), σ = [some (.ref a), some (.ref pr), some (.ref pq), v] ∧ ReadAt H H' pr pq rows row ∧ rows.length ≤ i ∧ row.length ≤ i ∧ parseGo ns [] [] = parseGo (ns.drop i) rows row)
    ⟨pq, none, [], [], rfl, ⟨s0, hpr, hpq0, nrq, ⟨[], by rw [upd_ne nrq]; exact upd_same, .nil, by simp, by simp⟩, upd_same⟩, Nat.le_refl _, Nat.le_refl _, by rw [List.drop_zero]⟩
    (fun i σ H' _ ⟨_, _, _, _, _, R, _⟩ => R.same.seq hS) ?_ ?_⟩
  · rintro i y σ H' hi ⟨pq, v, rows, row, rfl, R, hz1, hz2, hp⟩
    obtain ⟨b, hb, rfl⟩ := map_at hi
    have hil : i < ns.length := (List.getElem?_eq_some_iff.mp hb).1
    rw [drop_at hb] at hp
    obtain ⟨as, c1, c2, c3, c4⟩ := R.ch
    have al := c2.len
    refine ⟨_, rfl, rfl, _, rfl, ?_⟩
    rw [dvi]
    by_cases d : b = 10
    · rw [decide_eq_true d]
      refine iteT ?_
      refine ⟨_, rfl, .inl ⟨rfl, _, SqL.of c1⟩, _, rfl, pr, _, _, rfl, rfl, c1, (by rw [List.length_map, al]; exact line_small (by omega)), (by show 0 ≤ sizeLine; decide), fun pn hpn => ?_⟩
      have npr : pr ≠ pn := ne_of_none upd_same hpn
      have hpn' : H' pn = none := by rw [upd_ne (Ne.symm npr)] at hpn; exact hpn
      refine ⟨pn, some (.int b), rows ++ [row], [], rfl, ⟨(same_put R.same R.nr _).trans (same_new hpn _), R.nr, R.same.free hpn', npr, ⟨as ++ [pq], ?_, ?_, ?_, ?_⟩, upd_same⟩, by rw [List.length_append, List.length_singleton]; omega, Nat.zero_le _, ?_⟩
      · rw [upd_ne npr, upd_same, List.map_append]
        rfl
      · refine ((c2.push R.at_).upd ?_).upd ?_
        · intro z
          rcases List.mem_append.mp z with z | z
          · exact c4 z
          · exact R.ne (List.mem_singleton.mp z)
        · intro z
          rcases List.mem_append.mp z with z | z
          · obtain ⟨o, ho⟩ := c2.mem z
            rw [ho] at hpn'; cases hpn'
          · rw [List.mem_singleton.mp z] at hpn'
            rw [R.at_] at hpn'; cases hpn'
      · intro z
        rcases List.mem_append.mp z with z | z
        · obtain ⟨o, ho⟩ := c2.mem z
          rw [ho] at hpn'; cases hpn'
        · rw [List.mem_singleton.mp z, R.at_] at hpn'; cases hpn'
      · intro z
        rcases List.mem_append.mp z with z | z
        · exact c4 z
        · exact R.ne (List.mem_singleton.mp z)
      · rw [hp]
        show (if b = 10 then parseGo (ns.drop (i + 1)) (rows ++ [row]) [] else _) = _
        rw [if_pos d]
    · rw [decide_eq_false d]
      refine iteF ?_
      refine ⟨_, rfl, b, rfl, _, rfl, ite2 (fun c => ?_) (fun c => ?_)⟩
      · refine ⟨_, rfl, .inl ⟨rfl, _, SqL.of R.at_⟩, _, rfl, pq, _, _, rfl, rfl, R.at_, (by rw [List.length_map]; exact line_small (by omega)), ?_⟩
        refine ⟨pq, some (.int b), rows, row ++ [b], rfl, ⟨same_put R.same R.nq _, R.nr, R.nq, R.ne, ⟨as, ?_, c2.upd c3, c3, c4⟩, ?_⟩, by omega, by rw [List.length_append, List.length_singleton]; omega, ?_⟩
        · rw [upd_ne R.ne]; exact c1
        · rw [upd_same, List.map_append]; rfl
        · rw [hp]
          show (if b = 10 then _ else if isCol b = true then parseGo (ns.drop (i + 1)) rows (row ++ [b]) else none) = _
          rw [if_neg d, if_pos c]
      · refine qN ?_ H' R.same
        unfold parse
        rw [hp]
        show (match (if b = 10 then parseGo (ns.drop (i + 1)) (rows ++ [row]) [] else if isCol b = true then parseGo (ns.drop (i + 1)) rows (row ++ [b]) else none) with
          | none => none
          | some (rows, row) => if row = [] ∧ isChart rows = true then some rows else none) = none
        rw [if_neg d, if_neg c]
  · rintro σ H' ⟨pq, v, rows, row, rfl, R, hz1, hz2, hp⟩
    rw [List.length_map, List.drop_length] at hp
    obtain ⟨as, c1, c2, c3, c4⟩ := R.ch
    have hpa : parse ns = if row = [] ∧ isChart rows = true then some rows else none := by
      unfold parse
      rw [hp]
      rfl
    refine ⟨_, rfl, _, .inl ⟨_, SqL.of R.at_, rfl⟩, ?_⟩
    cases row with
    | cons x r =>
      refine iteT ?_
      refine iteT ?_
      exact qN (by rw [hpa, if_neg (fun z => by cases z.1)]) H' R.same
    | nil =>
      refine iteF ?_
      refine ⟨_, rfl, pr, as, rows, rfl, SqL.of c1, c2, _, rfl, ?_⟩
      cases e : isChart rows with
      | false =>
        refine iteT ?_
        exact qN (by rw [hpa, if_neg (fun z => by rw [e] at z; cases z.2)]) H' R.same
      | true =>
        refine iteF ?_
        exact ⟨_, rfl, qS rows (by rw [hpa, if_pos ⟨rfl, e⟩]) pr H' R.same ⟨as, c1, c2⟩⟩
theorem opt_none {H : Hp} {x : V} (h : OptCh H x none) : x = .non := by
  rcases h with h | ⟨p, rs, _, e, _⟩
  · exact h.1
  · cases e
theorem opt_some {H : Hp} {x : V} {rs : List (List Int)} (h : OptCh H x (some rs)) : ∃ p, x = .ref p ∧ ChartAt H p rs := by
  rcases h with h | ⟨p, rs', e, e', c⟩
  · cases h.2
  · cases e'
    exact ⟨p, e, c⟩
theorem dec_ref {p : Addr} : decide (V.ref p = V.non) = false := decide_eq_false (fun z => by cases z)
/-! ### is_depth -/
def depthZ (n : Int) : Bool := decide (1 ≤ n) && decide (n ≤ 128)
def spDep : Sp := fun vs H Q _ => ∃ n : Int, vs = [.int n] ∧ Q (.bl (depthZ n)) H
theorem scDep : FnScope ["h"] ["h"] (defScope sDep) := ⟨rfl, rfl, rfl, by decide +kernel, rfl, by decide +kernel, by decide +kernel⟩
theorem ok_dep {t : Tok} (F : Fun K "is_depth" "is_depth" sDep f fd) (mS : mg "MOST_DEPTH" = some (.int 128 t)) : FnOk P w K mg base CX0 1 f fd ["h"] spDep := by
  refine F.ok scDep (fun vs H Q E h => ?_) (fun cdv A outer s H vs Q E hr h => ?_)
  · obtain ⟨b, rfl, _⟩ := h
    rfl
  obtain ⟨b, rfl, q⟩ := h
  refine ⟨_, pss_one (ps_ret (pe_chain op_le op_le pe_int (pv 0) (pe_gi rfl mS))), ?_⟩
  unfold depthZ at q
  refine ⟨_, rfl, _, _, rfl, rfl, _, rfl, ite2 (fun c => ?_) (fun c => ?_)⟩
  · rw [c] at q
    exact ⟨_, _, rfl, rfl, q⟩
  · rw [Bool.eq_false_iff.mpr c] at q
    exact q
theorem chart_cons {R : List (List Int)} (h : isChart R = true) : ∃ r rs, R = r :: rs := by
  cases R with
  | nil => cases h
  | cons r rs => exact ⟨r, rs, rfl⟩
/-- len(x[0]) of a chart that has a row -/
theorem row0_at {H : Hp} {a : Addr} {R : List (List Int)} (h : ChartAt H a R) (hc : isChart R = true) : ∃ (as : List Addr) (b : Addr) (xs : List V), H a = some (.lst (as.map V.ref)) ∧ as.length = R.length ∧ atI (as.map V.ref) 0 = some (.ref b) ∧ H b = some (.lst xs) ∧ xs.length = wideOf R := by
  obtain ⟨as, hA, hR⟩ := h
  obtain ⟨r, rs, rfl⟩ := chart_cons hc
  have hl := hR.len
  cases hR with
  | cons e0 hR' => exact ⟨_, _, _, hA, hl, at_zero _ _, e0, List.length_map _⟩
/-! ### leaves_field -/
def spLeaves : Sp := fun vs H Q _ => ∃ (h : Int) (a : Addr) (R : List (List Int)), vs = [.int h, .ref a] ∧ ChartAt H a R ∧ isChart R = true ∧ Q (.bl (rugOk R h)) H
theorem scLeaves : FnScope ["h", "rug"] ["h", "rug"] (defScope sLeaves) := ⟨rfl, rfl, rfl, by decide +kernel, rfl, by decide +kernel, by decide +kernel⟩
theorem ok_leaves {fD : Addr} {dD : FuncData} (F : Fun K "leaves_field" "leaves_field" sLeaves f fd) (ml : mg "len" = none) (D : Defs K P w mg base 1 "is_depth" ["h"] spDep fD dD) : FnOk P w K mg base CX0 2 f fd ["h", "rug"] spLeaves := by
  refine F.ok scLeaves (fun vs H Q E h => ?_) (fun cdv A outer s H vs Q E hr h => ?_)
  · obtain ⟨h, a, R, rfl, _⟩ := h
    rfl
  obtain ⟨h, a, R, rfl, hA, iR, q⟩ := h
  refine ⟨_, pss_one (ps_ret (pe_and (pe_call D.G hr rfl D.m D.kp D.b .nil pass0 (pn 0 pa_nil))
    (pe_and (pe_cmpR op_lt (pe_op op_mul pe_int (pv 0)) (pe_callB call_len_seq rfl ml PySem.boot_len (pa_cons (pe_ix ix_list (pv 1) pe_int (fun _ _ => rfl)) pa_nil)) (nomark _))
    (pe_one (pe_cmpR op_lt (pe_op op_mul pe_int (pv 0)) (pe_callB call_len_seq rfl ml PySem.boot_len (pn 1 pa_nil)) (nomark _)))))), ?_⟩
  obtain ⟨as, b, xs, eA, lA, zA, eB, wR⟩ := row0_at hA iR
  have e : rugOk R h = (depthZ h && (decide (2 * h < (wideOf R : Nat)) && decide (2 * h < (R.length : Nat)))) := rfl
  rw [e] at q
  refine ⟨_, rfl, h, rfl, _, rfl, ?_⟩
  cases e1 : depthZ h with
  | false =>
    rw [e1] at q
    exact iteF q
  | true =>
  rw [e1] at q
  have hd : 1 ≤ h ∧ h ≤ 128 := by
    simpa only [depthZ, Bool.and_eq_true, decide_eq_true_eq] using e1
  refine iteT ?_
  refine ⟨_, rfl, _, _, rfl, rfl, .inl ⟨by decide, by decide⟩, _, rfl, a, _, _, _, rfl, rfl, SqL.of eA, zA, b, _, rfl, .inl (SqL.of eB), _, _, rfl, rfl, _, rfl, ?_⟩
  rw [wR]
  by_cases c1 : 2 * h < (wideOf R : Nat)
  · rw [decide_eq_true c1] at q ⊢
    refine iteT ?_
    refine ⟨_, rfl, _, _, rfl, rfl, .inl ⟨by decide, by decide⟩, _, rfl, a, _, rfl, .inl (SqL.of eA), _, _, rfl, rfl, ?_⟩
    rw [List.length_map, lA]
    exact q
  · rw [decide_eq_false c1] at q ⊢
    exact iteF q
theorem parse_chart {ns : List Int} {rs : List (List Int)} (e : parse ns = some rs) : isChart rs = true := by
  unfold parse at e
  cases e1 : parseGo ns [] [] with
  | none => rw [e1] at e; cases e
  | some p =>
    rw [e1] at e
    have e' : (if p.2 = [] ∧ isChart p.1 = true then some p.1 else none) = some rs := e
    by_cases c : p.2 = [] ∧ isChart p.1 = true
    · rw [if_pos c] at e'
      cases e'
      exact c.2
    · rw [if_neg c] at e'
      cases e'
/-! ### read_rug -/
def readM (h : Int) (t : List Int) : Int := if 66048 < t.length then -2 else match parse t with
  | none => -6
  | some R => if rugOk R h = true then 0 else -1
/-- what read_rug hands back beside the number -/
def ReadAs (H : Hp) (h : Int) (t : List Int) (x : V) : Prop := readM h t = 0 → ∃ R p, ¬ 66048 < t.length ∧ parse t = some R ∧ rugOk R h = true ∧ x = .ref p ∧ ChartAt H p R
def spRead (K : PySem.W.Frag) : Sp := fun vs H Q _ => ∃ (h : Int) (a : Addr) (t : List Int), vs = [.int h, .ref a] ∧ SqL K H a (t.map V.int) ∧ ∀ p H' x, Same H H' → H' p = some (.tup [.int (readM h t), x]) → ReadAs H' h t x → Q (.ref p) H'
theorem scRead : FnScope ["h", "t", "rug"] ["h", "t"] (defScope sRead) := ⟨rfl, rfl, rfl, by decide +kernel, rfl, by decide +kernel, by decide +kernel⟩
theorem ok_read {fL fC fV : Addr} {dL dC dV : FuncData} (F : Fun K "read_rug" "read_rug" sRead f fd) (L : Defs K P w mg base 1 "is_too_long" ["text"] (spLong K) fL dL) (C : Defs K P w mg base 4 "chart_of" ["text"] (spChart K) fC dC)
    (U : Defs K P w mg base 2 "leaves_field" ["h", "rug"] spLeaves fV dV) : FnOk P w K mg base CX0 5 f fd ["h", "t"] (spRead K) := by
  refine F.ok scRead (fun vs H Q E h => ?_) (fun cdv A outer s H vs Q E hr h => ?_)
  · obtain ⟨h, a, t, rfl, _⟩ := h
    rfl
  obtain ⟨h, a, t, rfl, ht, q⟩ := h
  have hr1 : Room 1 _ := hr.mono (by decide)
  have hr2 : Room 2 _ := hr.mono (by decide)
  refine ⟨_, pss_cons (ps_if (pt_val (pe_call L.G hr1 rfl L.m L.kp L.b .nil pass0 (pn 1 pa_nil))) (pss_one (ps_ret (pe_tup (pa_cons (pe_un un_neg pe_int) (pa_cons pe_non pa_nil))))) pss_nil)
    (pss_cons (ps_set (i := 2) scRead.nd rfl (.inl rfl) (pe_call C.G hr rfl C.m C.kp C.b .nil pass0 (pn 1 pa_nil)))
    (pss_cons (ps_if (pt_cmpR op_isN (pv 2) pe_non (nomark _)) (pss_one (ps_ret (pe_tup (pa_cons (pe_un un_neg pe_int) (pa_cons pe_non pa_nil))))) pss_nil)
    (pss_cons (ps_if (pt_not (pt_val (pe_call U.G hr2 rfl U.m U.kp U.b .nil pass0 (pn 0 (pn 2 pa_nil))))) (pss_one (ps_ret (pe_tup (pa_cons (pe_un un_neg pe_int) (pa_cons pe_non pa_nil))))) pss_nil)
    (pss_one (ps_ret (pe_tup (pa_cons pe_int (pn 2 pa_nil)))))))), ?_⟩
  have two : (2 : Nat) ≤ sizeLine := by decide
  have back : ∀ n : Int, readM h t = n → n ≠ 0 → ∀ H1, Same H H1 → ∀ p, H1 p = none → Q (.ref p) (upd H1 p (.tup [.int n, .non])) := fun n e n0 H1 s1 p hp =>
    q p _ .non (s1.trans (same_new hp _)) (by rw [e]; exact upd_same) fun z => absurd (e.symm.trans z) n0
  refine ⟨_, rfl, a, _, rfl, ht, _, rfl, ?_⟩
  rw [long_iff]
  by_cases c1 : 66048 < t.length
  · rw [decide_eq_true c1]
    exact iteT ⟨_, rfl, two, fun p hp => back (-2) (if_pos c1) (by decide) H (fun _ _ z => z) p hp⟩
  rw [decide_eq_false c1]
  refine iteF ?_
  refine ⟨_, rfl, a, t, rfl, ht, by omega, fun x1 H1 s1 o1 => ?_⟩
  refine ⟨_, rfl, rfl, _, rfl, ?_⟩
  cases e1 : parse t with
  | none =>
    rw [e1] at o1
    rw [opt_none o1]
    exact iteT ⟨_, rfl, two, fun p hp => back (-6) (by unfold readM; rw [if_neg c1, e1]) (by decide) H1 s1 p hp⟩
  | some R =>
  rw [e1] at o1
  obtain ⟨p1, rfl, ch1⟩ := opt_some o1
  rw [dec_ref]
  refine iteF ?_
  have iR := parse_chart e1
  have rm : readM h t = if rugOk R h = true then 0 else -1 := by
    unfold readM
    rw [if_neg c1, e1]
  refine ⟨_, rfl, _, rfl, h, p1, R, rfl, ch1, iR, _, rfl, ?_⟩
  cases d : rugOk R h with
  | false => exact iteT ⟨_, rfl, two, fun p hp => back (-1) (by rw [rm, if_neg (by rw [d]; decide)]) (by decide) H1 s1 p hp⟩
  | true =>
  refine iteF ?_
  refine ⟨_, rfl, two, fun p hp => ?_⟩
  rw [if_pos d] at rm
  refine q p _ (.ref p1) (s1.trans (same_new hp _)) (by rw [rm]; exact upd_same) fun _ => ⟨R, p1, c1, e1, d, rfl, ch1.same (same_new hp _)⟩
theorem readM_low {h : Int} {t : List Int} : readM h t < 0 ∨ readM h t = 0 := by
  unfold readM
  by_cases c : 66048 < t.length
  · rw [if_pos c]; exact .inl (by decide)
  · rw [if_neg c]
    cases parse t with
    | none => exact .inl (show (-6 : Int) < 0 by decide)
    | some R =>
      simp only
      by_cases d : rugOk R h = true
      · rw [if_pos d]; exact .inr rfl
      · rw [if_neg d]; exact .inl (by decide)
/-! ### text_of -/
def spText : Sp := fun vs H Q _ => ∃ (a : Addr) (rs : List (List Int)), vs = [.ref a] ∧ ChartAt H a rs ∧ (flat rs).length ≤ 1000000 ∧ ∀ p H', Same H H' → H' p = some (.lst ((flat rs).map V.int)) → Q (.ref p) H'
theorem scText : FnScope ["chart", "text", "row"] ["chart"] (defScope sText) := ⟨rfl, rfl, rfl, by decide +kernel, rfl, by decide +kernel, by decide +kernel⟩
theorem flat_app (a b : List (List Int)) : flat (a ++ b) = flat a ++ flat b := by simp [flat]
theorem flat_take (rs : List (List Int)) (i : Nat) : (flat (rs.take i)).length ≤ (flat rs).length := by
  have e : flat rs = flat (rs.take i) ++ flat (rs.drop i) := by rw [← flat_app, List.take_append_drop]
  rw [e, List.length_append]
  omega
theorem ok_text {t : Tok} (F : Fun K "text_of" "text_of" sText f fd) (mE : mg "ROW_END" = some (.int 10 t)) : FnOk P w K mg base CX0 1 f fd ["chart"] spText := by
  refine F.ok scText (fun vs H Q E h => ?_) (fun cdv A outer s H vs Q E hr h => ?_)
  · obtain ⟨a, rs, rfl, _⟩ := h
    rfl
  obtain ⟨a, rs, rfl, ⟨as, hA, hR⟩, hlen, q⟩ := h
  refine ⟨_, pss_cons (ps_set (i := 1) scText.nd rfl (.inl rfl) (pe_lst pa_nil))
    (pss_cons (ps_for PassesOwn.never rfl (pi_list (pv 0)) (pg_name (i := 2) scText.nd rfl (.inl rfl))
      (pss_cons (ps_expr (pe_bm PySem.F.plainAttrs_list PySem.F.slot_list_extend PySem.F.type_list_extend mt_extend (pv 1) (pa_cons (pv 2) pa_nil)))
      (pss_one (ps_expr (pe_bm PySem.F.plainAttrs_list PySem.F.slot_list_append PySem.F.type_list_append mt_append (pv 1) (pa_cons (pe_gi rfl mE) pa_nil))))))
    (pss_one (ps_ret (pv 1)))), ?_⟩
  refine ⟨(by show 0 ≤ sizeLine; decide), fun p hp => ?_⟩
  have s0 : Same H (upd H p (.lst [])) := same_new hp _
  refine ⟨_, rfl, a, rfl, ⟨_, SqL.of (s0 _ _ hA)⟩, for_list (K := K) (a := a) (xs := as.map V.ref) (fun i σ H' => ∃ v : Option V, σ = [some (.ref a), some (.ref p), v] ∧ Same H H' ∧ H' p = some (.lst ((flat (rs.take i)).map V.int)))
    ⟨none, rfl, s0, upd_same⟩ (fun i σ H' _ ⟨_, _, e, _⟩ => SqL.of (e _ _ hA)) ?_ ?_⟩
  · rintro i y σ H' hi ⟨v, rfl, s5, h5⟩
    obtain ⟨b, hb, rfl⟩ := map_at hi
    obtain ⟨r, hr1, hr2⟩ := hR.get hb
    have tm := take_more hr1
    have fl : flat (rs.take (i + 1)) = (flat (rs.take i) ++ r) ++ [10] := by
      rw [tm, flat_app]
      simp [flat]
    have z := flat_take rs (i + 1)
    rw [fl, List.length_append, List.length_append, List.length_singleton] at z
    refine ⟨_, rfl, .inl ⟨rfl, _, SqL.of h5⟩, _, rfl, p, b, _, _, rfl, rfl, h5, s5 _ _ hr2, (by rw [List.length_map, List.length_map]; exact Nat.le_of_lt (line_small (by omega))), ?_⟩
    refine ⟨_, rfl, .inl ⟨rfl, _, SqL.of upd_same⟩, p, _, _, rfl, rfl, upd_same, (by rw [List.length_append, List.length_map, List.length_map]; exact line_small (by omega)), ?_⟩
    refine ⟨some (.ref b), rfl, same_put (same_put s5 hp _) hp _, ?_⟩
    rw [upd_same, fl, List.map_append, List.map_append]
    rfl
  · rintro σ H' ⟨v, rfl, s5, h5⟩
    refine ⟨_, rfl, q p H' s5 ?_⟩
    rw [h5, List.length_map, hR.len, List.take_length]
/-! ### told_text -/
def spTold : Sp := fun vs H Q _ => ∃ (a : Addr) (rs : List (List Int)), vs = [.ref a] ∧ ChartAt H a rs ∧ (flat rs).length ≤ 1000000 ∧ ∀ p H', Same H H' → H' p = some (.lst ((((flat rs).length : Int) :: flat rs).map V.int)) → Q (.ref p) H'
theorem scTold : FnScope ["chart", "text"] ["chart"] (defScope sTold) := ⟨rfl, rfl, rfl, by decide +kernel, rfl, by decide +kernel, by decide +kernel⟩
theorem ok_told {fT : Addr} {dT : FuncData} (F : Fun K "told_text" "told_text" sTold f fd) (ml : mg "len" = none) (T : Defs K P w mg base 1 "text_of" ["chart"] spText fT dT) : FnOk P w K mg base CX0 2 f fd ["chart"] spTold := by
  refine F.ok scTold (fun vs H Q E h => ?_) (fun cdv A outer s H vs Q E hr h => ?_)
  · obtain ⟨a, rs, rfl, _⟩ := h
    rfl
  obtain ⟨a, rs, rfl, hA, small, q⟩ := h
  refine ⟨_, pss_cons (ps_set (i := 1) scTold.nd rfl (.inl rfl) (pe_call T.G hr rfl T.m T.kp T.b .nil pass0 (pn 0 pa_nil)))
    (pss_one (ps_ret (pe_op op_cat (pe_lst (pa_cons (pe_callB call_len_seq rfl ml PySem.boot_len (pn 1 pa_nil)) pa_nil)) (pv 1)))), ?_⟩
  have one : (1 : Nat) ≤ sizeLine := by decide
  refine ⟨_, rfl, a, rs, rfl, hA, small, fun pt H5 s5 ht5 => ?_⟩
  refine ⟨_, rfl, pt, _, rfl, .inl (SqL.of ht5), one, fun pl hpl => ?_⟩
  refine ⟨_, rfl, pl, pt, _, _, rfl, rfl, upd_same, (same_new hpl _) _ _ ht5, ?_, fun p hp => ?_⟩
  · rw [List.length_map]
    show 1 + _ ≤ _
    exact Nat.le_of_lt (Nat.lt_of_le_of_lt (Nat.add_le_add_left small 1) (by rw [sizeLine_eq]; decide))
  · refine q p _ (s5.trans ((same_new hpl _).trans (same_new hp _))) ?_
    rw [upd_same, List.length_map]
    rfl
theorem chart_all {R : List (List Int)} (h : isChart R = true) : ∀ r ∈ R, r.length = wideOf R := by
  intro r hr
  simp only [isChart, Bool.and_eq_true, List.all_eq_true, decide_eq_true_eq] at h
  exact h.1.2 r hr
/-! ### field_within -/
theorem cut_of {xs : List V} {h n : Nat} (e : xs.length = n) (c : 2 * h < n) : cutV xs (some (h : Int)) (some ((n : Int) - (h : Int))) = (xs.drop h).take (n - 2 * h) := by
  have z : ((n : Int) - (h : Int)) = ((n - h : Nat) : Int) := by omega
  unfold cutV
  rw [z, HT.sIx_nat, HT.sIx_nat, e, Nat.min_eq_left (by omega), Nat.min_eq_left (by omega)]
  congr 1
  omega
/-- len(xs), of a list or a tuple -/
def rLenK (K : PySem.W.Frag) : List V → Hp → VK → Prop := fun xs H Q => ∃ p ys, xs = [V.ref p] ∧ (SqL K H p ys ∨ SqT K H p ys) ∧ Q (V.int ((ys.length : Nat) : Int)) H
def spWithin : Sp := fun vs H Q _ => ∃ (h : Nat) (a : Addr) (R : List (List Int)), vs = [.int h, .ref a] ∧ ChartAt H a R ∧ isChart R = true ∧ 2 * h < wideOf R ∧ 2 * h < R.length ∧ R.length ≤ 512 ∧
  ∀ p H', Same H H' → ChartAt H' p (cutRows R h h (wideOf R - 2 * h) (R.length - 2 * h)) → Q (.ref p) H'
theorem scWithin : FnScope ["h", "rug", "row"] ["h", "rug"] (defScope sWithin) := ⟨rfl, rfl, rfl, by decide +kernel, rfl, by decide +kernel, by decide +kernel⟩
/-- a comprehension without a test -/
theorem yes_turn {σ : L2.St} {H : Hp} {A B : Hp → Prop} (h : A H) : tYes σ H (fun b H3 => if b = true then A H3 else B H3) := (if_pos rfl : (if true = true then A H else B H) = A H).mpr h
theorem RowsAt.part {H : Hp} : ∀ {as : List Addr} {rs : List (List Int)} (i n : Nat), RowsAt H as rs → RowsAt H ((as.drop i).take n) ((rs.drop i).take n)
  | _, _, i, n, .nil => by simp; exact .nil
  | _, _, 0, 0, .cons e h => .nil
  | _, _, 0, n + 1, .cons e h => .cons e (h.part 0 n)
  | _, _, i + 1, n, .cons e h => h.part i n
theorem ok_within (F : Fun K "field_within" "field_within" sWithin f fd) (ml : mg "len" = none) : FnOk P w K mg base CX0 1 f fd ["h", "rug"] spWithin := by
  refine F.ok scWithin (fun vs H Q E h => ?_) (fun cdv A outer s H vs Q E hr h => ?_)
  · obtain ⟨h, a, R, rfl, _⟩ := h
    rfl
  obtain ⟨h, a, R, rfl, ⟨as, hA, hR⟩, iR, cw, ch, sm, q⟩ := h
  refine ⟨_, pss_one (ps_ret (pe_lc (own := [("row", 2)]) (g := gName 2) (tt := tYes) rfl scWithin.nd
    (pi_list (pe_slice sl_list (pv 1) (po_some (pv 0)) (po_some (pe_op op_sub (pe_callB call_len_seq rfl ml PySem.boot_len (pn 1 pa_nil)) (pv 0)))))
    (blkOk_by (N := ["h", "rug", "row"]) (sc := defScope sWithin) (by decide +kernel)) (fun _ _ _ _ _ => pg_name (i := 2) scWithin.nd rfl (Or.inl rfl)) (fun _ _ _ _ _ => pts_nil)
    (fun _ _ _ _ _ => pe_slice (r := rSlL K) sl_list (pv 2) (po_some (pv 0)) (po_some (pe_op op_sub (pe_callB (r := rLenK K) call_len_seq (by rfl) ml PySem.boot_len (pn 2 pa_nil)) (pv 0)))))), ?_⟩
  have la := hR.len
  have cutA : cutV (as.map V.ref) (some (h : Int)) (some ((((as.map V.ref).length : Nat) : Int) - (h : Int))) = ((as.drop h).take (R.length - 2 * h)).map V.ref := by
    have z := cut_of (xs := as.map V.ref) (h := h) (n := R.length) (by rw [List.length_map, la]) ch
    rw [List.length_map, la, z, List.map_take, List.map_drop]
  have lA : ((as.drop h).take (R.length - 2 * h)).length = R.length - 2 * h := by
    rw [List.length_take, List.length_drop]
    omega
  have all := chart_all iR
  refine ⟨_, rfl, _, rfl, h, rfl, _, rfl, a, _, rfl, .inl (SqL.of hA), _, rfl, _, _, rfl, rfl, _, rfl, a, _, rfl, SqL.of hA, fun ps hps => ?_⟩
  rw [cutA]
  have s0 : Same H (upd H ps (.lst (((as.drop h).take (R.length - 2 * h)).map V.ref))) := same_new hps _
  have hP := (hR.part h (R.length - 2 * h)).same s0
  refine ⟨ps, rfl, ⟨_, SqL.of upd_same⟩, fun D hD => lc_list (K := K) (a := ps) (xs := ((as.drop h).take (R.length - 2 * h)).map V.ref)
    (fun i H' => ∃ bs : List Addr, Same (upd H ps (.lst (((as.drop h).take (R.length - 2 * h)).map V.ref))) H' ∧ H' D = some (.lst (bs.map V.ref)) ∧ D ∉ bs ∧ bs.length = i ∧
      RowsAt H' bs ((((R.drop h).take (R.length - 2 * h)).take i).map fun r => (r.drop h).take (wideOf R - 2 * h)))
    ⟨[], same_new hD _, upd_same, by simp, rfl, .nil⟩ (fun i H' _ ⟨_, s, _⟩ => SqL.of (s _ _ upd_same)) ?_ ?_⟩
  · rintro i x H' hi ⟨bs, s, eD, nD, lb, rows⟩
    obtain ⟨b, hb, rfl⟩ := map_at hi
    obtain ⟨r, hr1, hr2⟩ := hP.get hb
    have hr3 := s _ _ hr2
    have hil := (List.getElem?_eq_some_iff.mp hb).1
    have wr : r.length = wideOf R := all r (List.mem_of_mem_drop (List.mem_of_mem_take (List.mem_of_getElem? hr1)))
    have cutR : cutV (r.map V.int) (some (h : Int)) (some ((((r.map V.int).length : Nat) : Int) - (h : Int))) = ((r.drop h).take (wideOf R - 2 * h)).map V.int := by
      have z := cut_of (xs := r.map V.int) (h := h) (n := wideOf R) (by rw [List.length_map, wr]) cw
      rw [List.length_map, wr, z, List.map_take, List.map_drop]
    refine ⟨rfl, yes_turn ?_⟩
    refine ⟨_, rfl, _, rfl, h, rfl, _, rfl, b, _, rfl, .inl (SqL.of hr3), _, rfl, _, _, rfl, rfl, _, rfl, b, _, rfl, SqL.of hr3, fun pr hpr => ?_⟩
    rw [cutR]
    have sp := same_new hpr (.lst (((r.drop h).take (wideOf R - 2 * h)).map V.int))
    have nDp : D ≠ pr := ne_of_none eD hpr
    refine ⟨bs.map V.ref, sp _ _ eD, ?_, bs ++ [pr], (same_put (s.trans sp) hD _), ?_, ?_, ?_, ?_⟩
    · rw [List.length_map]
      exact line_small (by omega)
    · rw [upd_same, List.map_append]
      rfl
    · intro z
      rcases List.mem_append.mp z with z | z
      · exact nD z
      · exact nDp (List.mem_singleton.mp z)
    · rw [List.length_append, lb]
      rfl
    · rw [take_more hr1, List.map_append]
      refine RowsAt.upd ((rows.same sp).push upd_same) ?_
      intro z
      rcases List.mem_append.mp z with z | z
      · exact nD z
      · exact nDp (List.mem_singleton.mp z)
  · rintro H' ⟨bs, s, eD, nD, lb, rows⟩
    refine q D H' (s0.trans s) ⟨bs, eD, ?_⟩
    rw [cut_slices all (by omega) (by omega)]
    rw [List.length_map, lA, List.take_of_length_le (by rw [List.length_take]; omega)] at rows
    exact rows
theorem flat_len : ∀ (rs : List (List Int)) (n : Nat), (∀ r ∈ rs, r.length = n) → (flat rs).length = rs.length * (n + 1)
  | [], n, _ => by
    show 0 = 0 * (n + 1)
    rw [Nat.zero_mul]
  | r :: rs, n, h => by
    have ih := flat_len rs n fun x hx => h x (List.mem_cons_of_mem _ hx)
    have e : flat (r :: rs) = (r ++ [10]) ++ flat rs := rfl
    rw [e, List.length_append, List.length_append, ih, h r (List.mem_cons_self ..)]
    show n + 1 + rs.length * (n + 1) = (rs.length + 1) * (n + 1)
    rw [Nat.succ_mul]
    omega
theorem chart_small {R : List (List Int)} (h : isChart R = true) : wideOf R ≤ 512 ∧ R.length ≤ 512 ∧ 1 ≤ wideOf R ∧ 1 ≤ R.length := by
  simp only [isChart, sizeOkI, Bool.and_eq_true, decide_eq_true_eq] at h
  omega
/-! ### off -/
theorem off_low {h : Int} {t : List Int} (bt : bytesOk t) (c : readM h t < 0) : PyWqbbch.off h t = [readM h t] := by
  rw [off_is bt]
  unfold offM readM
  unfold readM at c
  by_cases d : 66048 < t.length
  · rw [if_pos d, if_pos d]
  · rw [if_neg d, if_neg d]
    rw [if_neg d] at c
    cases e : parse t with
    | none => rfl
    | some R =>
      simp only
      rw [e] at c
      simp only at c
      by_cases z : rugOk R h = true
      · rw [if_pos z] at c
        exact absurd c (by decide)
      · rw [if_neg z, if_neg z]
def spOff (K : PySem.W.Frag) : Sp := fun vs H Q _ => ∃ (h : Int) (a : Addr) (t : List Int), vs = [.int h, .ref a] ∧ 0 ≤ h ∧ SqL K H a (t.map V.int) ∧ bytesOk t ∧ ∀ p H', H' p = some (.lst ((PyWqbbch.off h t).map V.int)) → Q (.ref p) H'
theorem scOff : FnScope ["h", "t", "read"] ["h", "t"] (defScope sOff) := ⟨rfl, rfl, rfl, by decide +kernel, rfl, by decide +kernel, by decide +kernel⟩
theorem ok_off {fL fT fW : Addr} {dL dT dW : FuncData} (F : Fun K "off" "off" sOff f fd) (L : Defs K P w mg base 5 "read_rug" ["h", "t"] (spRead K) fL dL)
    (T : Defs K P w mg base 2 "told_text" ["chart"] spTold fT dT) (W : Defs K P w mg base 1 "field_within" ["h", "rug"] spWithin fW dW) :
    FnOk P w K mg base CX0 6 f fd ["h", "t"] (spOff K) := by
  refine F.ok scOff (fun vs H Q E h => ?_) (fun cdv A outer s H vs Q E hr h => ?_)
  · obtain ⟨h, a, t, rfl, _⟩ := h
    rfl
  obtain ⟨h, a, t, rfl, h0, ht, bt, q⟩ := h
  have hr1 : Room 1 _ := hr.mono (by decide)
  have hr2 : Room 2 _ := hr.mono (by decide)
  refine ⟨_, pss_cons (ps_set (i := 2) scOff.nd rfl (.inl rfl) (pe_call L.G hr rfl L.m L.kp L.b .nil pass0 (pn 0 (pn 1 pa_nil))))
    (pss_cons (ps_if (pt_cmpR op_lt (pe_ix ix_tup (pv 2) pe_int (fun _ _ => rfl)) pe_int (nomark _)) (pss_one (ps_ret (pe_lst (pa_cons (pe_ix ix_tup (pv 2) pe_int (fun _ _ => rfl)) pa_nil)))) pss_nil)
    (pss_one (ps_ret (pe_call T.G hr2 rfl T.m T.kp T.b .nil pass0 (pa_cons (pe_call W.G hr1 rfl W.m W.kp W.b .nil pass0 (pa_cons (pv 0) (pa_cons (pe_ix ix_tup (pv 2) pe_int (fun _ _ => rfl)) pa_nil))) pa_nil))))), ?_⟩
  have one : (1 : Nat) ≤ sizeLine := by decide
  refine ⟨_, rfl, _, rfl, h, a, t, rfl, ht, fun pr H1 x s1 tp as => ?_⟩
  refine ⟨_, rfl, pr, _, _, _, rfl, rfl, SqT.of tp, at_zero _ _, _, _, rfl, rfl, _, rfl, ?_⟩
  rcases readM_low (h := h) (t := t) with c | c
  · rw [decide_eq_true c]
    rw [off_low bt c] at q
    exact iteT ⟨_, rfl, pr, _, _, _, rfl, rfl, SqT.of tp, at_zero _ _, one, fun p hp => q p _ upd_same⟩
  rw [decide_eq_false (by omega)]
  refine iteF ?_
  obtain ⟨R, p1, c1, e1, d, rfl, ch1⟩ := as c
  have iR := parse_chart e1
  rw [off_is bt] at q
  unfold offM at q
  rw [if_neg c1, e1] at q
  have q' : ∀ p H', H' p = some (.lst ((if rugOk R h = true then wholeM (cutRows R h.toNat h.toNat (wideOf R - 2 * h.toNat) (R.length - 2 * h.toNat)) else [-1]).map V.int)) → Q (.ref p) H' := q
  rw [if_pos d] at q'
  obtain ⟨h, rfl⟩ : ∃ n : Nat, h = n := ⟨h.toNat, by omega⟩
  rw [Int.toNat_natCast] at q'
  simp only [rugOk, Bool.and_eq_true, decide_eq_true_eq] at d
  obtain ⟨m1, m2, m3, m4⟩ := chart_small iR
  refine ⟨_, rfl, _, rfl, pr, _, _, _, rfl, rfl, SqT.of tp, at_one _ _ _, h, p1, R, rfl, ch1, iR, by omega, by omega, m2, fun p2 H2 s2 ch2 => ?_⟩
  refine ⟨p2, _, rfl, ch2, ?_, fun pt H5 s5 ht5 => q' pt H5 ht5⟩
  have e : (flat (cutRows R h h (wideOf R - 2 * h) (R.length - 2 * h))).length = (cutRows R h h (wideOf R - 2 * h) (R.length - 2 * h)).length * (wideOf R - 2 * h + 1) := flat_len _ _ fun r hr => by
    unfold cutRows at hr
    obtain ⟨j, _, rfl⟩ := List.mem_map.mp hr
    rw [List.length_map, List.length_range]
  have l : (cutRows R h h (wideOf R - 2 * h) (R.length - 2 * h)).length ≤ 512 := by
    unfold cutRows
    rw [List.length_map, List.length_range]
    omega
  rw [e]
  exact Nat.le_trans (Nat.mul_le_mul l (show wideOf R - 2 * h + 1 ≤ 513 by omega)) (by decide)
end
theorem bytes_of {l : List Int} (h : l.all (Codec.inInt 0 255) = true) : bytesOk l := fun b hb => Codec.inInt_iff.mp (List.all_eq_true.mp h b hb)
/-- the request and the answer -/
theorem request {K : PySem.W.Frag} {H : Hp} {xs : List V} {a : Codec.denoteAll PySem.Challenge.rw_rugborders_s04_off.args} (hwi : Codec.withinAll PySem.Challenge.rw_rugborders_s04_off.args a = true) (hx : DwAll K H xs (Codec.encAll PySem.Challenge.rw_rugborders_s04_off.args a)) :
    spOff K xs H (fun v H' => Dw K H' v (PySem.Challenge.rw_rugborders_s04_off.ret.enc (Codec.app PySem.Challenge.rw_rugborders_s04_off.args PySem.Challenge.rw_rugborders_s04_off.f a))) (fun _ _ _ => False) := by
  obtain ⟨h, t, u⟩ := a
  have q : (Codec.inInt 0 4294967295 h && ((Codec.inLen 0 70000 t && t.all (Codec.inInt 0 255)) && true)) = true := hwi
  simp only [Bool.and_eq_true] at q
  obtain ⟨q1, ⟨_, q2⟩, _⟩ := q
  cases hx with
  | cons h1 hx =>
  cases hx with
  | cons h2 hx =>
  cases hx
  cases h1
  cases h2 with
  | lst s2 a2 =>
  have e2 := ints_dw t _ a2
  subst e2
  exact ⟨h, _, t, rfl, (Codec.inInt_iff.mp q1).1, s2, bytes_of q2, fun p H' hp => .lst (SqL.of hp) (dw_ints _)⟩
theorem all_mk {P : Program} {w : World} {K : PySem.W.Frag} {h : Heap} {mg : Str → Option Value} {fa f0 f1 f2 f3 f4 f5 f6 f7 f8 f9 f10 f11 f12 : Addr} (X : K.In h) (G : h.Ns mainGlobals mg) (hfa : mg "off" = some (.ref fa))
    {od0 an0 od1 an1 od2 an2 od3 an3 od4 an4 od5 an5 od6 an6 od7 an7 od8 an8 od9 an9 od10 an10 od11 an11 od12 an12 : Option Addr} {sl0 sl1 sl2 sl3 sl4 sl5 sl6 sl7 sl8 sl9 sl10 sl11 sl12 : Array (Option Value)} {oc0 kV0 dc0 pm0 cd0 ct0 oc1 kV1 dc1 pm1 cd1 ct1 oc2 kV2 dc2 pm2 cd2 ct2 oc3 kV3 dc3 pm3 cd3 ct3 oc4 kV4 dc4 pm4 cd4 ct4 oc5 kV5 dc5 pm5 cd5 ct5 oc6 kV6 dc6 pm6 cd6 ct6 oc7 kV7 dc7 pm7 cd7 ct7 oc8 kV8 dc8 pm8 cd8 ct8 oc9 kV9 dc9 pm9 cd9 ct9 oc10 kV10 dc10 pm10 cd10 ct10 oc11 kV11 dc11 pm11 cd11 ct11 oc12 kV12 dc12 pm12 cd12 ct12 : Value} {t0 t1 t2 t3 t4 : Tok}
    (a0 : PySem.W.nsIn K mainGlobals "is_too_long" = some (some (.ref f0))) (l0 : K.lookup f0 = some ⟨oc0, od0, .func (PySem.W.fnOf "is_too_long" "is_too_long" (defArgs sLong) (defBody sLong) (defScope sLong) .none kV0 dc0 pm0 an0 cd0 ct0), sl0⟩) (c0 : PySem.W.codeIn K cd0 "is_too_long" = true) (k0 : PySem.W.keepIn K (.ref f0) = true)
    (a1 : PySem.W.nsIn K mainGlobals "is_colour" = some (some (.ref f1))) (l1 : K.lookup f1 = some ⟨oc1, od1, .func (PySem.W.fnOf "is_colour" "is_colour" (defArgs sCol) (defBody sCol) (defScope sCol) .none kV1 dc1 pm1 an1 cd1 ct1), sl1⟩) (c1 : PySem.W.codeIn K cd1 "is_colour" = true) (k1 : PySem.W.keepIn K (.ref f1) = true)
    (a2 : PySem.W.nsIn K mainGlobals "is_side" = some (some (.ref f2))) (l2 : K.lookup f2 = some ⟨oc2, od2, .func (PySem.W.fnOf "is_side" "is_side" (defArgs sSide) (defBody sSide) (defScope sSide) .none kV2 dc2 pm2 an2 cd2 ct2), sl2⟩) (c2 : PySem.W.codeIn K cd2 "is_side" = true) (k2 : PySem.W.keepIn K (.ref f2) = true)
    (a3 : PySem.W.nsIn K mainGlobals "is_chart_size" = some (some (.ref f3))) (l3 : K.lookup f3 = some ⟨oc3, od3, .func (PySem.W.fnOf "is_chart_size" "is_chart_size" (defArgs sSize) (defBody sSize) (defScope sSize) .none kV3 dc3 pm3 an3 cd3 ct3), sl3⟩) (c3 : PySem.W.codeIn K cd3 "is_chart_size" = true) (k3 : PySem.W.keepIn K (.ref f3) = true)
    (a4 : PySem.W.nsIn K mainGlobals "is_chart" = some (some (.ref f4))) (l4 : K.lookup f4 = some ⟨oc4, od4, .func (PySem.W.fnOf "is_chart" "is_chart" (defArgs sIsCh) (defBody sIsCh) (defScope sIsCh) .none kV4 dc4 pm4 an4 cd4 ct4), sl4⟩) (c4 : PySem.W.codeIn K cd4 "is_chart" = true) (k4 : PySem.W.keepIn K (.ref f4) = true)
    (a5 : PySem.W.nsIn K mainGlobals "chart_of" = some (some (.ref f5))) (l5 : K.lookup f5 = some ⟨oc5, od5, .func (PySem.W.fnOf "chart_of" "chart_of" (defArgs sChart) (defBody sChart) (defScope sChart) .none kV5 dc5 pm5 an5 cd5 ct5), sl5⟩) (c5 : PySem.W.codeIn K cd5 "chart_of" = true) (k5 : PySem.W.keepIn K (.ref f5) = true)
    (a6 : PySem.W.nsIn K mainGlobals "is_depth" = some (some (.ref f6))) (l6 : K.lookup f6 = some ⟨oc6, od6, .func (PySem.W.fnOf "is_depth" "is_depth" (defArgs sDep) (defBody sDep) (defScope sDep) .none kV6 dc6 pm6 an6 cd6 ct6), sl6⟩) (c6 : PySem.W.codeIn K cd6 "is_depth" = true) (k6 : PySem.W.keepIn K (.ref f6) = true)
    (a7 : PySem.W.nsIn K mainGlobals "leaves_field" = some (some (.ref f7))) (l7 : K.lookup f7 = some ⟨oc7, od7, .func (PySem.W.fnOf "leaves_field" "leaves_field" (defArgs sLeaves) (defBody sLeaves) (defScope sLeaves) .none kV7 dc7 pm7 an7 cd7 ct7), sl7⟩) (c7 : PySem.W.codeIn K cd7 "leaves_field" = true) (k7 : PySem.W.keepIn K (.ref f7) = true)
    (a8 : PySem.W.nsIn K mainGlobals "read_rug" = some (some (.ref f8))) (l8 : K.lookup f8 = some ⟨oc8, od8, .func (PySem.W.fnOf "read_rug" "read_rug" (defArgs sRead) (defBody sRead) (defScope sRead) .none kV8 dc8 pm8 an8 cd8 ct8), sl8⟩) (c8 : PySem.W.codeIn K cd8 "read_rug" = true) (k8 : PySem.W.keepIn K (.ref f8) = true)
    (a9 : PySem.W.nsIn K mainGlobals "text_of" = some (some (.ref f9))) (l9 : K.lookup f9 = some ⟨oc9, od9, .func (PySem.W.fnOf "text_of" "text_of" (defArgs sText) (defBody sText) (defScope sText) .none kV9 dc9 pm9 an9 cd9 ct9), sl9⟩) (c9 : PySem.W.codeIn K cd9 "text_of" = true) (k9 : PySem.W.keepIn K (.ref f9) = true)
    (a10 : PySem.W.nsIn K mainGlobals "told_text" = some (some (.ref f10))) (l10 : K.lookup f10 = some ⟨oc10, od10, .func (PySem.W.fnOf "told_text" "told_text" (defArgs sTold) (defBody sTold) (defScope sTold) .none kV10 dc10 pm10 an10 cd10 ct10), sl10⟩) (c10 : PySem.W.codeIn K cd10 "told_text" = true) (k10 : PySem.W.keepIn K (.ref f10) = true)
    (a11 : PySem.W.nsIn K mainGlobals "field_within" = some (some (.ref f11))) (l11 : K.lookup f11 = some ⟨oc11, od11, .func (PySem.W.fnOf "field_within" "field_within" (defArgs sWithin) (defBody sWithin) (defScope sWithin) .none kV11 dc11 pm11 an11 cd11 ct11), sl11⟩) (c11 : PySem.W.codeIn K cd11 "field_within" = true) (k11 : PySem.W.keepIn K (.ref f11) = true)
    (a12 : PySem.W.nsIn K mainGlobals "off" = some (some (.ref f12))) (l12 : K.lookup f12 = some ⟨oc12, od12, .func (PySem.W.fnOf "off" "off" (defArgs sOff) (defBody sOff) (defScope sOff) .none kV12 dc12 pm12 an12 cd12 ct12), sl12⟩) (c12 : PySem.W.codeIn K cd12 "off" = true) (k12 : PySem.W.keepIn K (.ref f12) = true)
    (u0 : PySem.W.nsIn K mainGlobals "ROW_END" = some (some (.int 10 t0)))
    (u1 : PySem.W.nsIn K mainGlobals "MOST_SIDE" = some (some (.int 512 t1)))
    (u2 : PySem.W.nsIn K mainGlobals "MOST_KNOTS" = some (some (.int 65536 t2)))
    (u3 : PySem.W.nsIn K mainGlobals "MOST_BYTES" = some (some (.int 66048 t3)))
    (u4 : PySem.W.nsIn K mainGlobals "MOST_DEPTH" = some (some (.int 128 t4)))
    (z0 : PySem.W.nsIn K mainGlobals "len" = some none) :
    ∃ fd : FuncData, (∀ (s : Shared) (us : List Value), us.length = (["h", "t"] : List Str).length → BindsTo s fd ⟨us, []⟩ ((["h", "t"] : List Str).zip us)) ∧ ∀ base : Heap, K.In base → base.Ns mainGlobals mg → FnOk P w K mg base CX0 6 fa fd ["h", "t"] (spOff K) := by
  have e := hfa.symm.trans (PySem.W.mg_of X G a12)
  cases e
  have F0 := fun_mk (st := sLong) l0 c0 k0
  have m0 := PySem.W.mg_of X G a0
  have F1 := fun_mk (st := sCol) l1 c1 k1
  have m1 := PySem.W.mg_of X G a1
  have F2 := fun_mk (st := sSide) l2 c2 k2
  have m2 := PySem.W.mg_of X G a2
  have F3 := fun_mk (st := sSize) l3 c3 k3
  have m3 := PySem.W.mg_of X G a3
  have F4 := fun_mk (st := sIsCh) l4 c4 k4
  have m4 := PySem.W.mg_of X G a4
  have F5 := fun_mk (st := sChart) l5 c5 k5
  have m5 := PySem.W.mg_of X G a5
  have F6 := fun_mk (st := sDep) l6 c6 k6
  have m6 := PySem.W.mg_of X G a6
  have F7 := fun_mk (st := sLeaves) l7 c7 k7
  have m7 := PySem.W.mg_of X G a7
  have F8 := fun_mk (st := sRead) l8 c8 k8
  have m8 := PySem.W.mg_of X G a8
  have F9 := fun_mk (st := sText) l9 c9 k9
  have m9 := PySem.W.mg_of X G a9
  have F10 := fun_mk (st := sTold) l10 c10 k10
  have m10 := PySem.W.mg_of X G a10
  have F11 := fun_mk (st := sWithin) l11 c11 k11
  have m11 := PySem.W.mg_of X G a11
  have F12 := fun_mk (st := sOff) l12 c12 k12
  have m12 := PySem.W.mg_of X G a12
  have v_ROW_END := PySem.W.mg_of X G u0
  have v_MOST_SIDE := PySem.W.mg_of X G u1
  have v_MOST_KNOTS := PySem.W.mg_of X G u2
  have v_MOST_BYTES := PySem.W.mg_of X G u3
  have v_MOST_DEPTH := PySem.W.mg_of X G u4
  have n_len := PySem.W.mg_none_of X G z0
  refine ⟨PySem.W.fnOf "off" "off" (defArgs sOff) (defBody sOff) (defScope sOff) .none kV12 dc12 pm12 an12 cd12 ct12, fun s us hu => match us, hu with | [_, _], _ => .of_eq rfl, fun base _ _ => ?_⟩
  have b0 := F0.binds (ps := ["text"]) fun _ _ _ _ _ _ us hl => match us, hl with | [_], _ => rfl
  have b1 := F1.binds (ps := ["byte"]) fun _ _ _ _ _ _ us hl => match us, hl with | [_], _ => rfl
  have b2 := F2.binds (ps := ["number"]) fun _ _ _ _ _ _ us hl => match us, hl with | [_], _ => rfl
  have b3 := F3.binds (ps := ["width", "height"]) fun _ _ _ _ _ _ us hl => match us, hl with | [_, _], _ => rfl
  have b4 := F4.binds (ps := ["rows"]) fun _ _ _ _ _ _ us hl => match us, hl with | [_], _ => rfl
  have b5 := F5.binds (ps := ["text"]) fun _ _ _ _ _ _ us hl => match us, hl with | [_], _ => rfl
  have b6 := F6.binds (ps := ["h"]) fun _ _ _ _ _ _ us hl => match us, hl with | [_], _ => rfl
  have b7 := F7.binds (ps := ["h", "rug"]) fun _ _ _ _ _ _ us hl => match us, hl with | [_, _], _ => rfl
  have b8 := F8.binds (ps := ["h", "t"]) fun _ _ _ _ _ _ us hl => match us, hl with | [_, _], _ => rfl
  have b9 := F9.binds (ps := ["chart"]) fun _ _ _ _ _ _ us hl => match us, hl with | [_], _ => rfl
  have b10 := F10.binds (ps := ["chart"]) fun _ _ _ _ _ _ us hl => match us, hl with | [_], _ => rfl
  have b11 := F11.binds (ps := ["h", "rug"]) fun _ _ _ _ _ _ us hl => match us, hl with | [_, _], _ => rfl
  have D0 : Defs K P w mg base _ "is_too_long" _ _ _ _ := ⟨ok_long (P := P) (w := w) (base := base) F0 n_len v_MOST_BYTES, b0, k0, m0⟩
  have D1 : Defs K P w mg base _ "is_colour" _ _ _ _ := ⟨ok_col (P := P) (w := w) (base := base) F1 , b1, k1, m1⟩
  have D2 : Defs K P w mg base _ "is_side" _ _ _ _ := ⟨ok_side (P := P) (w := w) (base := base) F2 v_MOST_SIDE, b2, k2, m2⟩
  have D3 : Defs K P w mg base _ "is_chart_size" _ _ _ _ := ⟨ok_size (P := P) (w := w) (base := base) F3 D2.G b2 k2 m2 v_MOST_KNOTS, b3, k3, m3⟩
  have D4 : Defs K P w mg base _ "is_chart" _ _ _ _ := ⟨ok_isCh (P := P) (w := w) (base := base) F4 D3.G b3 k3 m3 n_len, b4, k4, m4⟩
  have D5 : Defs K P w mg base _ "chart_of" _ _ _ _ := ⟨ok_chart (P := P) (w := w) (base := base) F5 D1.G b1 k1 m1 D4.G b4 k4 m4 v_ROW_END, b5, k5, m5⟩
  have D6 : Defs K P w mg base _ "is_depth" _ _ _ _ := ⟨ok_dep (P := P) (w := w) (base := base) F6 v_MOST_DEPTH, b6, k6, m6⟩
  have D7 : Defs K P w mg base _ "leaves_field" _ _ _ _ := ⟨ok_leaves (P := P) (w := w) (base := base) F7 n_len D6, b7, k7, m7⟩
  have D8 : Defs K P w mg base _ "read_rug" _ _ _ _ := ⟨ok_read (P := P) (w := w) (base := base) F8 D0 D5 D7, b8, k8, m8⟩
  have D9 : Defs K P w mg base _ "text_of" _ _ _ _ := ⟨ok_text (P := P) (w := w) (base := base) F9 v_ROW_END, b9, k9, m9⟩
  have D10 : Defs K P w mg base _ "told_text" _ _ _ _ := ⟨ok_told (P := P) (w := w) (base := base) F10 n_len D9, b10, k10, m10⟩
  have D11 : Defs K P w mg base _ "field_within" _ _ _ _ := ⟨ok_within (P := P) (w := w) (base := base) F11 n_len, b11, k11, m11⟩
  exact ok_off F12 D8 D10 D11
end RH
open PySem PySem.W PyProof.Rows
set_option maxRecDepth 100000 in
set_option maxHeartbeats 8000000 in
theorem PySem.Challenge.cw_rugborders_s04_off_holds : PySem.Challenge.rw_rugborders_s04_off.Holds := by
  w_on; k_headS; (case hw => exact ⟨[.int 0, .list []], by decide +kernel, by decide +kernel⟩)
  k_fillS
  refine L2.walk_specK (r := PySem.Challenge.rw_rugborders_s04_off) (k := 6) (CX := L2.CX0) (ps := ["h", "t"]) (sp := RH.spOff) (by decide +kernel) rfl rfl ⟨rfl, by decide, by decide⟩ (fun w h Y => PySem.W.kIn_of Y) ?F ?S (fun _ _ _ _ z => z)
  case F =>
    intro w mg fa h Y KX G hmg
    refine' RH.all_mk KX G hmg ?a0 ?l0 ?c0 ?k0 ?a1 ?l1 ?c1 ?k1 ?a2 ?l2 ?c2 ?k2 ?a3 ?l3 ?c3 ?k3 ?a4 ?l4 ?c4 ?k4 ?a5 ?l5 ?c5 ?k5 ?a6 ?l6 ?c6 ?k6 ?a7 ?l7 ?c7 ?k7 ?a8 ?l8 ?c8 ?k8 ?a9 ?l9 ?c9 ?k9 ?a10 ?l10 ?c10 ?k10 ?a11 ?l11 ?c11 ?k11 ?a12 ?l12 ?c12 ?k12 ?u0 ?u1 ?u2 ?u3 ?u4 ?z0
    (case a0 => k_is)
    (case l0 => k_is)
    (case c0 => k_is)
    (case k0 => k_is)
    (case a1 => k_is)
    (case l1 => k_is)
    (case c1 => k_is)
    (case k1 => k_is)
    (case a2 => k_is)
    (case l2 => k_is)
    (case c2 => k_is)
    (case k2 => k_is)
    (case a3 => k_is)
    (case l3 => k_is)
    (case c3 => k_is)
    (case k3 => k_is)
    (case a4 => k_is)
    (case l4 => k_is)
    (case c4 => k_is)
    (case k4 => k_is)
    (case a5 => k_is)
    (case l5 => k_is)
    (case c5 => k_is)
    (case k5 => k_is)
    (case a6 => k_is)
    (case l6 => k_is)
    (case c6 => k_is)
    (case k6 => k_is)
    (case a7 => k_is)
    (case l7 => k_is)
    (case c7 => k_is)
    (case k7 => k_is)
    (case a8 => k_is)
    (case l8 => k_is)
    (case c8 => k_is)
    (case k8 => k_is)
    (case a9 => k_is)
    (case l9 => k_is)
    (case c9 => k_is)
    (case k9 => k_is)
    (case a10 => k_is)
    (case l10 => k_is)
    (case c10 => k_is)
    (case k10 => k_is)
    (case a11 => k_is)
    (case l11 => k_is)
    (case c11 => k_is)
    (case k11 => k_is)
    (case a12 => k_is)
    (case l12 => k_is)
    (case c12 => k_is)
    (case k12 => k_is)
    (case u0 => k_is)
    (case u1 => k_is)
    (case u2 => k_is)
    (case u3 => k_is)
    (case u4 => k_is)
    (case z0 => k_is)
  case S =>
    intro K H xs a hO hwi hask hx
    exact RH.request hwi hx
