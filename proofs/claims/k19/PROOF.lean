import PyProof.Rows.All
import Wide.All
import OpenK.AllK
import Wide.FinOn
import HandS.ForExc
import HandS.Comp
import HandS.Deep
import HandS.TupAny
import HandS.TupMul
import HandS.TupLe
import HandS.CallSlots
import HandS.Iter
import HandS.Zip
import HandS.IsInst
import KE.SortData
import KE.GoesEnum
import KE.SortKeyHeap
import HandS.Keys
import HandS.SortKw
import KE.DataMinMax
import HandS.Dict
import KE.KDictDisplayH
import KE.KDictCopyH
import KE.KDictSum
import HandS.ExcOwn
import HandS.ExcValue
import HandS.SetFor
import HandS.Strs
import HandS.TupSets
import KE.GoesMore
import KE.GoesZip
import HandS.Style
import HandS.ExcIs
import HandS.HotCalls
import HandS.FStr
import HandS.RaiseMore
import PyProof.ZipIter
import PyProof.CallType
import PyProof.Walk
import PyProof.WalkLemmas
import PyProof.RangeIter
import PyProof.RulesTry
import HandS.Conv
import KE.SortCalls
import HandS.Sort
import PyProof.SumAny
import KE.KeyNested
import PyProof.DictRoadsH
import PyProof.DictTruth
import HandS.OwnEq
import KE.KCallOwn
import HandS.Codes
import PyProof.InstEq
import HandS.RevRange
import HandS.Text
import HandS.ReplaceLit
import PyProof.StrOps2
import KE.KDictWalk
import PyProof.Rows.SeqMore
import PySem.Challenge.RW_smallspaces_k19_whole_chosen_rows
set_option Elab.async false
set_option linter.all false
set_option maxRecDepth 100000
set_option maxHeartbeats 4000000
namespace LA
open Lean.Grind
section
variable {F : Type} [CommRing F]
def sm : List F → F
  | [] => 0
  | x :: xs => x + sm xs
theorem sm_append (xs ys : List F) : sm (xs ++ ys) = sm xs + sm ys := by
  induction xs with
  | nil => show sm ys = 0 + sm ys; grind
  | cons x xs ih => show x + sm (xs ++ ys) = (x + sm xs) + sm ys; grind
theorem sm_add {α : Type} (f g : α → F) (c : F) (L : List α) : sm (L.map fun q => f q + c * g q) = sm (L.map f) + c * sm (L.map g) := by
  induction L with
  | nil => show (0 : F) = 0 + c * 0; grind
  | cons x L ih => show (f x + c * g x) + sm (L.map fun q => f q + c * g q) = (f x + sm (L.map f)) + c * (g x + sm (L.map g)); grind
theorem sm_zero {α : Type} (f : α → F) (L : List α) (h : ∀ q ∈ L, f q = 0) : sm (L.map f) = 0 := by
  induction L with
  | nil => rfl
  | cons x L ih =>
    show f x + sm (L.map f) = 0
    rw [h x List.mem_cons_self, ih fun q hq => h q (List.mem_cons_of_mem _ hq)]
    grind
theorem sm_one {α : Type} (f : α → F) (k : α → Nat) : ∀ (L : List α) (q : α), (L.map k).Nodup → q ∈ L → (∀ q' ∈ L, k q' ≠ k q → f q' = 0) → sm (L.map f) = f q
  | x :: L, q, hn, hq, h => by
    rw [List.map_cons, List.nodup_cons] at hn
    show f x + sm (L.map f) = f q
    rcases List.mem_cons.mp hq with rfl | hq
    · rw [sm_zero f L fun q' hq' => h q' (List.mem_cons_of_mem _ hq') fun e => hn.1 (e ▸ List.mem_map_of_mem hq')]
      grind
    · rw [sm_one f k L q hn.2 hq fun q' hq' => h q' (List.mem_cons_of_mem _ hq'), h x List.mem_cons_self fun e => hn.1 (e ▸ List.mem_map_of_mem hq)]
      grind
abbrev Vc (F : Type) := Nat → F
inductive Sp (G : Vc F → Prop) : Vc F → Prop
  | zero : Sp G (fun _ => 0)
  | add {w r : Vc F} (c : F) : Sp G w → G r → Sp G (fun i => w i + c * r i)
variable {G G' : Vc F → Prop}
theorem Sp.cast {w w' : Vc F} (h : Sp G w) (e : ∀ i, w i = w' i) : Sp G w' := (funext e : w = w') ▸ h
theorem Sp.of {r : Vc F} (h : G r) : Sp G r := (Sp.add 1 Sp.zero h).cast fun i => by grind
theorem Sp.addS {u v : Vc F} (c : F) (hu : Sp G u) (hv : Sp G v) : Sp G (fun i => u i + c * v i) := by
  induction hv generalizing c with
  | zero => exact hu.cast fun i => by grind
  | @add w r d hw hr ih => exact (Sp.add (c * d) (ih c) hr).cast fun i => by grind
theorem Sp.smul {v : Vc F} (c : F) (hv : Sp G v) : Sp G (fun i => c * v i) := (Sp.addS c .zero hv).cast fun i => by grind
theorem Sp.trans (h : ∀ r, G r → Sp G' r) {w : Vc F} (hw : Sp G w) : Sp G' w := by
  induction hw with
  | zero => exact .zero
  | add c hw hr ih => exact Sp.addS c ih (h _ hr)
theorem Sp.mono (h : ∀ r, G r → G' r) {w : Vc F} (hw : Sp G w) : Sp G' w := hw.trans fun r hr => .of (h r hr)
theorem Sp.ind {P : Vc F → Prop} (h0 : P (fun _ => 0)) (ha : ∀ u r c, P u → G r → P (fun i => u i + c * r i)) {w : Vc F} (hw : Sp G w) : P w := by
  induction hw with
  | zero => exact h0
  | add c _ hr ih => exact ha _ _ c ih hr
theorem Sp.split {b : Vc F} {w : Vc F} (h : Sp (fun r => G r ∨ r = b) w) : ∃ u c, Sp G u ∧ ∀ i, w i = u i + c * b i := by
  induction h with
  | zero => exact ⟨_, 0, .zero, fun i => by grind⟩
  | @add w r d _ hr ih =>
    obtain ⟨u, c, hu, e⟩ := ih
    rcases hr with hr | rfl
    · exact ⟨_, c, Sp.add d hu hr, fun i => by simp only [e i]; grind⟩
    · exact ⟨u, c + d, hu, fun i => by simp only [e i]; grind⟩
structure Piv (L : List (Nat × Vc F)) : Prop where
  nd : (L.map (·.1)).Nodup
  one : ∀ q ∈ L, q.2 q.1 = 1
  off : ∀ q ∈ L, ∀ q' ∈ L, q'.1 ≠ q.1 → q.2 q'.1 = 0
def In (L : List (Nat × Vc F)) : Vc F → Prop := fun r => ∃ q ∈ L, q.2 = r
def lc (L : List (Nat × Vc F)) (w : Vc F) : Vc F := fun i => sm (L.map fun q => w q.1 * q.2 i)
theorem lc_add (L : List (Nat × Vc F)) (w r : Vc F) (c : F) (i : Nat) : lc L (fun i => w i + c * r i) i = lc L w i + c * lc L r i := by
  show sm (L.map fun q => (w q.1 + c * r q.1) * q.2 i) = _
  rw [show (fun q : Nat × Vc F => (w q.1 + c * r q.1) * q.2 i) = fun q => w q.1 * q.2 i + c * (r q.1 * q.2 i) from funext fun q => by grind]
  exact sm_add _ _ c L
theorem lc_one {L : List (Nat × Vc F)} (P : Piv L) {q : Nat × Vc F} (hq : q ∈ L) (i : Nat) : lc L q.2 i = q.2 i := by
  have e := sm_one (fun q' : Nat × Vc F => q.2 q'.1 * q'.2 i) (fun q' => q'.1) L q P.nd hq fun q' hq' hne => by
    rw [P.off q hq q' hq' hne]; grind
  refine e.trans ?_
  rw [P.one q hq]; grind
theorem coefs {L : List (Nat × Vc F)} (P : Piv L) {w : Vc F} (h : Sp (In L) w) (i : Nat) : w i = lc L w i := by
  induction h generalizing i with
  | zero => exact (sm_zero _ L fun q _ => by grind).symm
  | @add w r c _ hr ih =>
    obtain ⟨q, hq, rfl⟩ := hr
    rw [lc_add, lc_one P hq, ← ih i]
theorem lc_sp (L : List (Nat × Vc F)) (w : Vc F) : ∀ M : List (Nat × Vc F), (∀ q ∈ M, q ∈ L) → Sp (In L) (lc M w)
  | [], _ => Sp.zero
  | q :: M, h => by
    have ih := lc_sp L w M fun q hq => h q (List.mem_cons_of_mem _ hq)
    exact (Sp.add (w q.1) ih ⟨q, h q List.mem_cons_self, rfl⟩).cast fun i => by
      show lc M w i + w q.1 * q.2 i = w q.1 * q.2 i + sm (M.map fun q => w q.1 * q.2 i)
      show sm (M.map fun q => w q.1 * q.2 i) + _ = _
      grind
theorem of_coefs {L : List (Nat × Vc F)} {w : Vc F} (h : ∀ i, w i = lc L w i) : Sp (In L) w := (lc_sp L w L fun q h => h).cast fun i => (h i).symm
theorem Piv.ext {L : List (Nat × Vc F)} (P : Piv L) {w w' : Vc F} (h : Sp (In L) w) (h' : Sp (In L) w') (e : ∀ q ∈ L, w q.1 = w' q.1) (i : Nat) : w i = w' i := by
  rw [coefs P h, coefs P h']
  show sm _ = sm _
  congr 1
  exact List.map_congr_left fun q hq => by rw [e q hq]
end
end LA
namespace LA
open Lean.Grind
section
variable {p : Nat} [NeZero p] {n : Nat}
def ci (p : Nat) [NeZero p] (x : Int) : Fin p := Ring.intCast.intCast x
theorem ci_add (x y : Int) : ci p (x + y) = ci p x + ci p y := Ring.intCast_add x y
theorem ci_mul (x y : Int) : ci p (x * y) = ci p x * ci p y := Ring.intCast_mul x y
theorem ci_neg (x : Int) : ci p (-x) = - ci p x := Ring.intCast_neg x
theorem ci_zero : ci p 0 = 0 := Ring.intCast_zero
theorem ci_one : ci p 1 = 1 := Ring.intCast_one
theorem ci_ext {x y : Int} : ci p x = ci p y ↔ x % p = y % p := IsCharP.intCast_ext_iff (α := Fin p) p
theorem ci_mod (x : Int) : ci p (x % p) = ci p x := ci_ext.mpr (Int.emod_emod_of_dvd x (Int.dvd_refl _))
def InR (p : Nat) (x : Int) : Prop := 0 ≤ x ∧ x < p
theorem ci_inj {x y : Int} (hx : InR p x) (hy : InR p y) (h : ci p x = ci p y) : x = y := by
  have := ci_ext.mp h
  rw [Int.emod_eq_of_lt hx.1 hx.2, Int.emod_eq_of_lt hy.1 hy.2] at this
  exact this
theorem inR_mod (x : Int) : InR p (x % p) := by
  have h : (0 : Int) < p := by have := Nat.pos_of_ne_zero (NeZero.ne p); omega
  exact ⟨Int.emod_nonneg _ (by omega), Int.emod_lt_of_pos _ h⟩
theorem inR_val (c : Fin p) : InR p (c.val : Int) := ⟨by omega, by have := c.isLt; omega⟩
theorem ci_val (c : Fin p) : ci p (c.val : Int) = c := by
  have h : ci p (c.val : Int) = Semiring.natCast.natCast c.val := Ring.intCast_natCast c.val
  rw [h]
  apply Fin.ext
  show (Fin.ofNat p c.val).val = c.val
  rw [Fin.val_ofNat, Nat.mod_eq_of_lt c.isLt]
theorem ci_succ (k : Nat) : ci p ((k + 1 : Nat) : Int) = ci p (k : Int) + 1 := by
  rw [show ((k + 1 : Nat) : Int) = (k : Int) + 1 by omega, ci_add, ci_one]
theorem ci_surj (c : Fin p) : ∃ x, InR p x ∧ ci p x = c := ⟨c.val, inR_val c, ci_val c⟩
def ent (u : List Int) (i : Nat) : Int := u.getD i 0
def vec (p : Nat) [NeZero p] (u : List Int) : Vc (Fin p) := fun i => ci p (ent u i)
structure IsRow (p n : Nat) (u : List Int) : Prop where
  len : u.length = n
  rng : ∀ x ∈ u, InR p x
theorem ent_lt {u : List Int} {i : Nat} (h : i < u.length) : ent u i = u[i] := by
  unfold ent; rw [List.getD_eq_getElem?_getD, List.getElem?_eq_getElem h]; rfl
theorem ent_ge {u : List Int} {i : Nat} (h : u.length ≤ i) : ent u i = 0 := by
  unfold ent; rw [List.getD_eq_getElem?_getD, List.getElem?_eq_none h]; rfl
theorem inR_zero : InR p 0 := ⟨Int.le_refl _, by have := Nat.pos_of_ne_zero (NeZero.ne p); omega⟩
theorem IsRow.inR {u : List Int} (h : IsRow p n u) (i : Nat) : InR p (ent u i) := by
  by_cases hi : i < u.length
  · rw [ent_lt hi]; exact h.rng _ (List.getElem_mem hi)
  · rw [ent_ge (by omega)]; exact inR_zero
theorem vec_ge {u : List Int} (h : IsRow p n u) {i : Nat} (hi : n ≤ i) : vec p u i = 0 := by
  show ci p (ent u i) = 0
  rw [ent_ge (by rw [h.len]; exact hi), ci_zero]
theorem IsRow.ext {u v : List Int} (hu : IsRow p n u) (hv : IsRow p n v) (h : ∀ i, i < n → vec p u i = vec p v i) : u = v := by
  refine List.ext_getElem (hu.len.trans hv.len.symm) fun i h1 h2 => ?_
  have := ci_inj (hu.inR i) (hv.inR i) (h i (by rw [← hu.len]; exact h1))
  rw [ent_lt h1, ent_lt h2] at this
  exact this
theorem vec_zero_iff {u : List Int} (hu : IsRow p n u) (i : Nat) : vec p u i = 0 ↔ ent u i = 0 := by
  constructor
  · intro h; exact ci_inj (hu.inR i) inR_zero (h.trans ci_zero.symm)
  · intro h; show ci p (ent u i) = 0; rw [h, ci_zero]
def addM (p : Nat) (u : List Int) (f : Int) (v : List Int) : List Int := (u.zip v).map fun q => (q.1 + f * q.2) % (p : Int)
theorem addM_len {u v : List Int} {f : Int} (h : u.length = v.length) : (addM p u f v).length = u.length := by
  unfold addM; rw [List.length_map, List.length_zip, h, Nat.min_self]
theorem isRow_addM {u v : List Int} {f : Int} (hu : u.length = n) (hv : v.length = n) : IsRow p n (addM p u f v) := by
  refine ⟨(addM_len (hu.trans hv.symm)).trans hu, fun x hx => ?_⟩
  obtain ⟨q, _, rfl⟩ := List.mem_map.mp hx
  exact inR_mod _
theorem ent_addM {u v : List Int} {f : Int} (h : u.length = v.length) (i : Nat) : ent (addM p u f v) i = (ent u i + f * ent v i) % (p : Int) := by
  by_cases hi : i < u.length
  · have hl : i < (addM p u f v).length := by rw [addM_len h]; exact hi
    rw [ent_lt hl, ent_lt hi, ent_lt (by rw [← h]; exact hi)]
    simp [addM]
  · rw [ent_ge (by rw [addM_len h]; omega), ent_ge (by omega), ent_ge (by omega)]
    rw [Int.mul_zero, Int.zero_add, Int.zero_emod]
theorem vec_addM {u v : List Int} {f : Int} (h : u.length = v.length) (i : Nat) : vec p (addM p u f v) i = vec p u i + ci p f * vec p v i := by
  show ci p _ = _
  rw [ent_addM h, ci_mod, ci_add, ci_mul]
  rfl
def zero (n : Nat) : List Int := List.replicate n 0
theorem ent_zero (n i : Nat) : ent (zero n) i = 0 := by
  by_cases hi : i < (zero n).length
  · rw [ent_lt hi]; unfold zero; exact List.getElem_replicate _
  · exact ent_ge (by omega)
theorem vec_zero (n i : Nat) : vec p (zero n) i = 0 := by show ci p _ = 0; rw [ent_zero, ci_zero]
theorem isRow_zero : IsRow p n (zero n) := ⟨List.length_replicate, fun x hx => by rw [List.eq_of_mem_replicate hx]; exact inR_zero⟩
def rowOf (n : Nat) (w : Vc (Fin p)) : List Int := (List.range n).map fun i => ((w i).val : Int)
theorem isRow_rowOf (w : Vc (Fin p)) : IsRow p n (rowOf n w) := ⟨by unfold rowOf; simp, fun x hx => by
  obtain ⟨i, _, rfl⟩ := List.mem_map.mp hx
  exact inR_val _⟩
theorem vec_rowOf {w : Vc (Fin p)} (h : ∀ i, n ≤ i → w i = 0) (i : Nat) : vec p (rowOf n w) i = w i := by
  by_cases hi : i < n
  · show ci p (ent _ i) = _
    rw [ent_lt (by rw [(isRow_rowOf (n := n) w).len]; exact hi)]
    unfold rowOf
    rw [List.getElem_map, List.getElem_range, ci_val]
  · rw [vec_ge (isRow_rowOf w) (by omega), h i (by omega)]
def Gs (p : Nat) [NeZero p] (rs : List (List Int)) : Vc (Fin p) → Prop := fun r => ∃ u ∈ rs, vec p u = r
structure Mem (p n : Nat) [NeZero p] (rs : List (List Int)) (w : List Int) : Prop where
  row : IsRow p n w
  sp : Sp (Gs p rs) (vec p w)
def Rows (p n : Nat) (rs : List (List Int)) : Prop := ∀ u ∈ rs, IsRow p n u
theorem sp_ge {rs : List (List Int)} (h : Rows p n rs) {w : Vc (Fin p)} (hw : Sp (Gs p rs) w) {i : Nat} (hi : n ≤ i) : w i = 0 := by
  induction hw with
  | zero => rfl
  | add c _ hr ih =>
    obtain ⟨u, hu, rfl⟩ := hr
    show _ + c * vec p u i = 0
    rw [ih, vec_ge (h u hu) hi]; grind
theorem Mem.zero {rs : List (List Int)} : Mem p n rs (zero n) := ⟨isRow_zero, Sp.zero.cast fun i => (vec_zero n i).symm⟩
theorem Mem.of {rs : List (List Int)} (h : Rows p n rs) {u : List Int} (hu : u ∈ rs) : Mem p n rs u := ⟨h u hu, .of ⟨u, hu, rfl⟩⟩
theorem Mem.add {rs : List (List Int)} {u v : List Int} (hu : Mem p n rs u) (hv : Mem p n rs v) (f : Int) : Mem p n rs (addM p u f v) :=
  ⟨isRow_addM hu.row.len hv.row.len, (Sp.addS (ci p f) hu.sp hv.sp).cast fun i => (vec_addM (hu.row.len.trans hv.row.len.symm) i).symm⟩
theorem Mem.trans {rs rs' : List (List Int)} (h : ∀ u ∈ rs, Mem p n rs' u) {w : List Int} (hw : Mem p n rs w) : Mem p n rs' w :=
  ⟨hw.row, hw.sp.trans fun r ⟨u, hu, e⟩ => e ▸ (h u hu).sp⟩
theorem Mem.mono {rs rs' : List (List Int)} (h : ∀ u ∈ rs, u ∈ rs') {w : List Int} (hw : Mem p n rs w) : Mem p n rs' w :=
  ⟨hw.row, hw.sp.mono fun r ⟨u, hu, e⟩ => ⟨u, h u hu, e⟩⟩
theorem Mem.least {rs : List (List Int)} (hr : Rows p n rs) {P : List Int → Prop} (h0 : P (LA.zero n)) (ha : ∀ w u, IsRow p n w → P w → u ∈ rs → P (addM p w 1 u)) {w : List Int} (hw : Mem p n rs w) : P w := by
  have key : ∀ v : Vc (Fin p), Sp (Gs p rs) v → P (rowOf n v) := by
    intro v hv
    induction hv with
    | zero =>
      have : rowOf (p := p) n (fun _ => 0) = LA.zero n := IsRow.ext (isRow_rowOf _) isRow_zero fun i _ => by rw [vec_rowOf (fun _ _ => rfl), vec_zero]
      rw [this]; exact h0
    | @add w r c hw' hrr ih =>
      obtain ⟨u, hu, rfl⟩ := hrr
      have many : ∀ k : Nat, P (rowOf n fun i => w i + ci p (k : Int) * vec p u i) := by
        intro k
        have vg : ∀ (c : Fin p) i, n ≤ i → w i + c * vec p u i = 0 := fun c i hi => by rw [sp_ge hr hw' hi, vec_ge (hr u hu) hi]; grind
        induction k with
        | zero =>
          have : rowOf n (fun i => w i + ci p ((0 : Nat) : Int) * vec p u i) = rowOf n w := IsRow.ext (isRow_rowOf _) (isRow_rowOf _) fun i _ => by
            rw [vec_rowOf (vg _), vec_rowOf fun i hi => sp_ge hr hw' hi, show ci p ((0 : Nat) : Int) = 0 from ci_zero]; grind
          rw [this]; exact ih
        | succ k ihk =>
          have e := ha _ u (isRow_rowOf _) ihk hu
          have : addM p (rowOf n fun i => w i + ci p (k : Int) * vec p u i) 1 u = rowOf n (fun i => w i + ci p ((k + 1 : Nat) : Int) * vec p u i) := by
            have hl := ((isRow_rowOf (n := n) fun i => w i + ci p (k : Int) * vec p u i).len).trans (hr u hu).len.symm
            refine IsRow.ext (isRow_addM (isRow_rowOf _).len (hr u hu).len) (isRow_rowOf _) fun i _ => ?_
            rw [vec_addM hl, vec_rowOf (vg _), vec_rowOf (vg _), ci_one, ci_succ]; grind
          rw [this] at e; exact e
      have e := many c.val
      rw [ci_val] at e; exact e
  have e := key _ hw.sp
  have : rowOf n (vec p w) = w := IsRow.ext (isRow_rowOf _) hw.row fun i _ => vec_rowOf (fun i hi => vec_ge hw.row hi) i
  rw [this] at e; exact e
def combos (p n : Nat) : List (List Int) → List (List Int) := fun rs => rs.foldl (fun found b => found.flatMap fun row => (List.range p).map fun f => addM p row (f : Nat) b) [zero n]
theorem combos_snoc (rs : List (List Int)) (b : List Int) : combos p n (rs ++ [b]) = (combos p n rs).flatMap fun row => (List.range p).map fun f => addM p row (f : Nat) b := by
  unfold combos; rw [List.foldl_append]; rfl
theorem snoc_ind {α : Type} {P : List α → Prop} (h0 : P []) (hs : ∀ xs x, P xs → P (xs ++ [x])) (xs : List α) : P xs := by
  have : ∀ ys : List α, P ys.reverse := fun ys => by
    induction ys with
    | nil => exact h0
    | cons y ys ih => rw [List.reverse_cons]; exact hs _ _ ih
  have e := this xs.reverse
  rw [List.reverse_reverse] at e; exact e
theorem rows_snoc {rs : List (List Int)} {b : List Int} (h : Rows p n (rs ++ [b])) : Rows p n rs ∧ IsRow p n b :=
  ⟨fun u hu => h u (List.mem_append_left _ hu), h b (List.mem_append_right _ List.mem_cons_self)⟩
theorem mem_combos : ∀ (rs : List (List Int)), Rows p n rs → ∀ w, w ∈ combos p n rs ↔ Mem p n rs w := by
  refine snoc_ind (fun _ w => ?_) fun rs b ih h w => ?_
  · constructor
    · intro h
      have : w = zero n := by simpa [combos] using h
      subst this; exact Mem.zero
    · intro h
      have : w = zero n := IsRow.ext h.row isRow_zero fun i _ => by
        rw [vec_zero]
        have : ∀ v : Vc (Fin p), Sp (Gs p []) v → v i = 0 := fun v hv => by
          cases hv with
          | zero => rfl
          | add c _ hr => obtain ⟨u, hu, _⟩ := hr; cases hu
        exact this _ h.sp
      subst this; simp [combos]
  · obtain ⟨hr, hb⟩ := rows_snoc h
    rw [combos_snoc, List.mem_flatMap]
    constructor
    · rintro ⟨row, hrow, hw⟩
      obtain ⟨f, _, rfl⟩ := List.mem_map.mp hw
      have h1 := (ih hr row).mp hrow
      exact Mem.add (h1.mono fun u hu => List.mem_append_left _ hu) (Mem.of h (List.mem_append_right _ List.mem_cons_self)) _
    · intro hw
      have s : Sp (fun r => Gs p rs r ∨ r = vec p b) (vec p w) := hw.sp.mono fun r ⟨u, hu, e⟩ => by
        rcases List.mem_append.mp hu with hu | hu
        · exact .inl ⟨u, hu, e⟩
        · rw [List.mem_singleton] at hu; subst hu; exact .inr e.symm
      obtain ⟨u, c, hu, e⟩ := s.split
      have hm : Mem p n rs (rowOf n u) := ⟨isRow_rowOf _, hu.cast fun i => (vec_rowOf (fun i hi => sp_ge hr hu hi) i).symm⟩
      refine ⟨rowOf n u, (ih hr _).mpr hm, List.mem_map.mpr ⟨c.val, List.mem_range.mpr c.isLt, ?_⟩⟩
      refine IsRow.ext (isRow_addM hm.row.len hb.len) hw.row fun i _ => ?_
      rw [vec_addM (hm.row.len.trans hb.len.symm), vec_rowOf (fun i hi => sp_ge hr hu hi), ci_val, e i]
theorem combos_length : ∀ rs : List (List Int), (combos p n rs).length = p ^ rs.length := by
  refine snoc_ind rfl fun rs b ih => ?_
  rw [combos_snoc, List.length_flatMap, List.length_append]
  simp only [List.length_map, List.length_range, List.map_const', List.sum_replicate_nat, ih]
  rw [List.length_singleton, Nat.pow_succ]
end
end LA
namespace LA
open Lean.Grind
def lead (u : List Int) : Option Nat := u.findIdx? fun x => decide (x ≠ 0)
theorem lead_some {u : List Int} {l : Nat} : lead u = some l ↔ ent u l ≠ 0 ∧ ∀ j, j < l → ent u j = 0 := by
  unfold lead
  rw [List.findIdx?_eq_some_iff_getElem]
  constructor
  · rintro ⟨h, h1, h2⟩
    refine ⟨by rw [ent_lt h]; simpa using h1, fun j hj => ?_⟩
    rw [ent_lt (by omega)]
    simpa using h2 j hj
  · rintro ⟨h1, h2⟩
    have h : l < u.length := by
      by_cases h : l < u.length
      · exact h
      · exact absurd (ent_ge (by omega)) h1
    refine ⟨h, by rw [ent_lt h] at h1; simpa using h1, fun j hj => ?_⟩
    have := h2 j hj
    rw [ent_lt (by omega)] at this
    simpa using this
theorem lead_none {u : List Int} : lead u = none ↔ ∀ i, ent u i = 0 := by
  unfold lead
  rw [List.findIdx?_eq_none_iff]
  constructor
  · intro h i
    by_cases hi : i < u.length
    · rw [ent_lt hi]; simpa using h _ (List.getElem_mem hi)
    · exact ent_ge (by omega)
  · intro h x hx
    obtain ⟨i, hi, rfl⟩ := List.mem_iff_getElem.mp hx
    have := h i
    rw [ent_lt hi] at this
    simpa using this
theorem lead_lt {u : List Int} {l : Nat} (h : lead u = some l) : l < u.length := by
  by_cases hl : l < u.length
  · exact hl
  · exact absurd (ent_ge (by omega)) (lead_some.mp h).1
section
variable {p : Nat} [NeZero p] {n : Nat}
theorem lead_none_zero {u : List Int} (h : IsRow p n u) : lead u = none ↔ u = zero n := by
  rw [lead_none]
  constructor
  · intro e; exact IsRow.ext h isRow_zero fun i _ => by rw [vec_zero]; exact (vec_zero_iff h i).mpr (e i)
  · rintro rfl i; exact ent_zero n i
structure Good (p n : Nat) [NeZero p] (R : List (List Int)) : Prop where
  row : Rows p n R
  hd : ∀ b ∈ R, ∃ l, lead b = some l ∧ ent b l = 1
  off : ∀ b ∈ R, ∀ c ∈ R, b ≠ c → ∀ l, lead b = some l → ent c l = 0
  nd : R.Nodup
def ld (u : List Int) : Nat := (lead u).getD 0
theorem ld_of {u : List Int} {l : Nat} (h : lead u = some l) : ld u = l := by unfold ld; rw [h]; rfl
def pl (p : Nat) [NeZero p] (R : List (List Int)) : List (Nat × Vc (Fin p)) := R.map fun b => (ld b, vec p b)
variable {R : List (List Int)}
theorem Good.ld' (G : Good p n R) {b : List Int} (hb : b ∈ R) : lead b = some (ld b) ∧ ent b (ld b) = 1 := by
  obtain ⟨l, h1, h2⟩ := G.hd b hb
  rw [ld_of h1]; exact ⟨h1, h2⟩
theorem Good.inj (G : Good p n R) {b c : List Int} (hb : b ∈ R) (hc : c ∈ R) (e : ld b = ld c) : b = c := by
  by_cases h : b = c
  · exact h
  · have := G.off b hb c hc h _ (G.ld' hb).1
    rw [e, (G.ld' hc).2] at this; cases this
theorem nodup_map {α β : Type} {f : α → β} : ∀ {xs : List α}, xs.Nodup → (∀ a ∈ xs, ∀ b ∈ xs, f a = f b → a = b) → (xs.map f).Nodup
  | [], _, _ => List.nodup_nil
  | x :: xs, h, hf => by
    rw [List.nodup_cons] at h
    rw [List.map_cons, List.nodup_cons]
    refine ⟨fun hx => ?_, nodup_map h.2 fun a ha b hb => hf a (List.mem_cons_of_mem _ ha) b (List.mem_cons_of_mem _ hb)⟩
    obtain ⟨y, hy, e⟩ := List.mem_map.mp hx
    have := hf y (List.mem_cons_of_mem _ hy) x List.mem_cons_self e
    subst this; exact h.1 hy
theorem Good.piv' (G : Good p n R) : Piv (pl p R) := by
  refine ⟨?_, fun q hq => ?_, fun q hq q' hq' hne => ?_⟩
  · unfold pl; rw [List.map_map]
    exact nodup_map G.nd fun b hb c hc e => G.inj hb hc e
  · obtain ⟨b, hb, rfl⟩ := List.mem_map.mp hq
    show ci p (ent b (ld b)) = 1
    rw [(G.ld' hb).2, ci_one]
  · obtain ⟨b, hb, rfl⟩ := List.mem_map.mp hq
    obtain ⟨c, hc, rfl⟩ := List.mem_map.mp hq'
    show ci p (ent b (ld c)) = 0
    rw [G.off c hc b hb (fun e => hne (by rw [e])) _ (G.ld' hc).1, ci_zero]
theorem in_pl {r : Vc (Fin p)} : In (pl p R) r ↔ Gs p R r := by
  constructor
  · rintro ⟨q, hq, rfl⟩
    obtain ⟨b, hb, rfl⟩ := List.mem_map.mp hq
    exact ⟨b, hb, rfl⟩
  · rintro ⟨b, hb, rfl⟩; exact ⟨_, List.mem_map_of_mem hb, rfl⟩
theorem Mem.pl {w : List Int} (h : Mem p n R w) : Sp (In (pl p R)) (vec p w) := h.sp.mono fun r hr => in_pl.mpr hr
theorem Good.ext (G : Good p n R) {w w' : List Int} (h : Mem p n R w) (h' : Mem p n R w') (e : ∀ b ∈ R, ent w (ld b) = ent w' (ld b)) : w = w' :=
  IsRow.ext h.row h'.row fun i _ => G.piv'.ext h.pl h'.pl (fun q hq => by
    obtain ⟨b, hb, rfl⟩ := List.mem_map.mp hq
    show ci p _ = ci p _
    rw [e b hb]) i
theorem sm_ne {α : Type} {F : Type} [CommRing F] {f : α → F} : ∀ {L : List α}, sm (L.map f) ≠ 0 → ∃ q ∈ L, f q ≠ 0 := by
  intro L h
  by_cases hx : ∃ q ∈ L, f q ≠ 0
  · exact hx
  · refine absurd (sm_zero f L fun q hq => ?_) h
    by_cases e : f q = 0
    · exact e
    · exact absurd ⟨q, hq, e⟩ hx
theorem Good.lead' (G : Good p n R) {w : List Int} (h : Mem p n R w) {l : Nat} (hl : lead w = some l) : ∃ b ∈ R, ld b = l := by
  obtain ⟨h1, h2⟩ := lead_some.mp hl
  have e := coefs G.piv' h.pl l
  have hne : vec p w l ≠ 0 := fun z => h1 ((vec_zero_iff h.row l).mp z)
  rw [e] at hne
  obtain ⟨q, hq, hq2⟩ := sm_ne hne
  obtain ⟨b, hb, rfl⟩ := List.mem_map.mp hq
  refine ⟨b, hb, ?_⟩
  have a1 : ent w (ld b) ≠ 0 := fun z => hq2 (by
    show ci p (ent w (ld b)) * _ = 0
    rw [z, ci_zero]; grind)
  have a2 : ent b l ≠ 0 := fun z => hq2 (by
    show _ * ci p (ent b l) = 0
    rw [z, ci_zero]; grind)
  have c1 : ¬ ld b < l := fun z => a1 (h2 _ z)
  have c2 : ¬ l < ld b := fun z => a2 ((lead_some.mp (G.ld' hb).1).2 _ z)
  omega
theorem Good.pick (G : Good p n R) {w b : List Int} (hb : b ∈ R) (h : Mem p n R w) (h1 : ent w (ld b) = 1) (h2 : ∀ c ∈ R, c ≠ b → ent w (ld c) = 0) : w = b :=
  G.ext h (Mem.of G.row hb) fun c hc => by
    by_cases e : c = b
    · subst e; rw [h1, (G.ld' hc).2]
    · rw [h2 c hc e, G.off c hc b hb e _ (G.ld' hc).1]
def Asc (R : List (List Int)) : Prop := R.Pairwise fun a b => ld a < ld b
structure Red (p n : Nat) [NeZero p] (R : List (List Int)) : Prop where
  good : Good p n R
  asc : Asc R
def pickRow (fr : List Nat) (l : Nat) (w : List Int) : Bool := (decide (lead w = some l) && decide (ent w l = 1)) && fr.all fun o => decide (o = l) || decide (ent w o = 0)
def bas (fr : List Nat) (W : List (List Int)) : List (List Int) := fr.flatMap fun l => W.filter fun w => pickRow fr l w
theorem filter_one {α : Type} {P : α → Bool} {b : α} : ∀ {W : List α}, W.Nodup → b ∈ W → P b = true → (∀ w ∈ W, P w = true → w = b) → W.filter P = [b]
  | w :: W, hn, hb, hp, h => by
    rw [List.nodup_cons] at hn
    by_cases e : w = b
    · subst e
      rw [List.filter_cons_of_pos hp]
      congr 1
      rw [List.filter_eq_nil_iff]
      intro x hx hpx
      have := h x (List.mem_cons_of_mem _ hx) hpx
      subst this; exact hn.1 hx
    · have hpw : ¬ P w = true := fun z => e (h w List.mem_cons_self z)
      rw [List.filter_cons_of_neg hpw]
      refine filter_one hn.2 ?_ hp fun x hx => h x (List.mem_cons_of_mem _ hx)
      rcases List.mem_cons.mp hb with z | hb
      · exact absurd z.symm e
      · exact hb
  | [], _, hb, _, _ => by cases hb
theorem asc_eq {xs ys : List Nat} (hx : xs.Pairwise (· < ·)) (hy : ys.Pairwise (· < ·)) (h : ∀ a, a ∈ xs ↔ a ∈ ys) : xs = ys := by
  have nx : xs.Nodup := hx.imp fun h => Nat.ne_of_lt h
  have ny : ys.Nodup := hy.imp fun h => Nat.ne_of_lt h
  exact List.Perm.eq_of_pairwise (le := (· < ·)) (fun a b _ _ h1 h2 => by omega) hx hy ((List.perm_ext_iff_of_nodup nx ny).mpr h)
structure Fronts (fr : List Nat) (W : List (List Int)) : Prop where
  asc : fr.Pairwise (· < ·)
  mem : ∀ l, l ∈ fr ↔ ∃ w ∈ W, lead w = some l
theorem Red.fronts (D : Red p n R) {W : List (List Int)} (hm : ∀ w, w ∈ W ↔ Mem p n R w) {fr : List Nat} (hf : Fronts fr W) : fr = R.map ld := by
  refine asc_eq hf.asc (List.pairwise_map.mpr D.asc) fun l => ?_
  rw [hf.mem, List.mem_map]
  constructor
  · rintro ⟨w, hw, e⟩; exact D.good.lead' ((hm w).mp hw) e
  · rintro ⟨b, hb, rfl⟩; exact ⟨b, (hm b).mpr (Mem.of D.good.row hb), (D.good.ld' hb).1⟩
theorem Red.bas' (D : Red p n R) {W : List (List Int)} (hn : W.Nodup) (hm : ∀ w, w ∈ W ↔ Mem p n R w) {fr : List Nat} (hf : Fronts fr W) : bas fr W = R := by
  have ef := D.fronts hm hf
  subst ef
  unfold bas
  have key : ∀ b ∈ R, (W.filter fun w => pickRow (R.map ld) (ld b) w) = [b] := fun b hb => by
    refine filter_one hn ((hm b).mpr (Mem.of D.good.row hb)) ?_ fun w hw hp => ?_
    · unfold pickRow
      rw [decide_eq_true (D.good.ld' hb).1, decide_eq_true (D.good.ld' hb).2]
      rw [Bool.and_self, Bool.true_and, List.all_eq_true]
      intro o ho
      obtain ⟨c, hc, rfl⟩ := List.mem_map.mp ho
      by_cases e : c = b
      · subst e; simp
      · rw [decide_eq_true (D.good.off c hc b hb e _ (D.good.ld' hc).1)]; simp
    · unfold pickRow at hp
      rw [Bool.and_eq_true, Bool.and_eq_true, List.all_eq_true] at hp
      refine D.good.pick hb ((hm w).mp hw) (of_decide_eq_true hp.1.2) fun c hc hne => ?_
      have := hp.2 (ld c) (List.mem_map_of_mem hc)
      rw [Bool.or_eq_true] at this
      rcases this with z | z
      · exact absurd (D.good.inj hc hb (of_decide_eq_true z)) hne
      · exact of_decide_eq_true z
  have : ∀ S : List (List Int), (∀ b ∈ S, b ∈ R) → ((S.map ld).flatMap fun l => W.filter fun w => pickRow (R.map ld) l w) = S := by
    intro S
    induction S with
    | nil => intro _; rfl
    | cons b S ih =>
      intro h
      rw [List.map_cons, List.flatMap_cons, key b (h b List.mem_cons_self), ih fun c hc => h c (List.mem_cons_of_mem _ hc)]
      rfl
  exact this R fun b hb => hb
theorem Red.unique {R' : List (List Int)} (D : Red p n R) (D' : Red p n R') (h : ∀ w, Mem p n R w ↔ Mem p n R' w) : R = R' := by
  have nm : ∀ {R : List (List Int)}, Red p n R → ∀ b ∈ R, ld b ∈ R.map ld := fun _ b hb => List.mem_map_of_mem hb
  have sub : ∀ {R R' : List (List Int)}, Red p n R → Red p n R' → (∀ w, Mem p n R w ↔ Mem p n R' w) → ∀ l, l ∈ R.map ld → l ∈ R'.map ld := fun {R R'} D D' h l hl => by
    obtain ⟨b, hb, rfl⟩ := List.mem_map.mp hl
    obtain ⟨c, hc, e⟩ := D'.good.lead' ((h b).mp (Mem.of D.good.row hb)) (D.good.ld' hb).1
    exact List.mem_map.mpr ⟨c, hc, e⟩
  have el : R.map ld = R'.map ld := asc_eq (List.pairwise_map.mpr D.asc) (List.pairwise_map.mpr D'.asc) fun l => ⟨sub D D' h l, sub D' D (fun w => (h w).symm) l⟩
  have eq : ∀ b ∈ R, ∀ c ∈ R', ld b = ld c → b = c := fun b hb c hc e => by
    refine D'.good.pick hc ((h b).mp (Mem.of D.good.row hb)) (by rw [← e]; exact (D.good.ld' hb).2) fun d hd hne => ?_
    have hl : ld d ∈ R.map ld := by rw [el]; exact nm D' d hd
    obtain ⟨b', hb', e'⟩ := List.mem_map.mp hl
    rw [← e']
    refine D.good.off b' hb' b hb (fun z => ?_) _ (D.good.ld' hb').1
    subst z
    exact hne (D'.good.inj hd hc (e'.symm.trans e))
  refine List.ext_getElem (by have := congrArg List.length el; simpa using this) fun i h1 h2 => eq _ (List.getElem_mem h1) _ (List.getElem_mem h2) ?_
  have := List.getElem_of_eq el (i := i) (by rw [List.length_map]; exact h1)
  simpa using this
theorem nodup_flat {α β : Type} {f : α → List β} : ∀ {xs : List α}, xs.Nodup → (∀ a ∈ xs, (f a).Nodup) → (∀ a ∈ xs, ∀ b ∈ xs, ∀ y, y ∈ f a → y ∈ f b → a = b) → (xs.flatMap f).Nodup
  | [], _, _, _ => List.nodup_nil
  | x :: xs, h, hf, hd => by
    rw [List.nodup_cons] at h
    rw [List.flatMap_cons, List.nodup_append]
    refine ⟨hf x List.mem_cons_self, nodup_flat h.2 (fun a ha => hf a (List.mem_cons_of_mem _ ha)) fun a ha b hb => hd a (List.mem_cons_of_mem _ ha) b (List.mem_cons_of_mem _ hb), fun y hy z hz e => ?_⟩
    subst e
    obtain ⟨x', hx', hy'⟩ := List.mem_flatMap.mp hz
    have := hd x List.mem_cons_self x' (List.mem_cons_of_mem _ hx') y hy hy'
    subst this; exact h.1 hx'
structure Own (p n : Nat) [NeZero p] (R : List (List Int)) (k : List Int → Nat) : Prop where
  row : Rows p n R
  one : ∀ b ∈ R, ent b (k b) = 1
  off : ∀ b ∈ R, ∀ c ∈ R, b ≠ c → ent c (k b) = 0
  nd : R.Nodup
theorem Good.own (G : Good p n R) : Own p n R ld := ⟨G.row, fun b hb => (G.ld' hb).2, fun b hb c hc h => G.off b hb c hc h _ (G.ld' hb).1, G.nd⟩
theorem nodup_combos {k : List Int → Nat} (hp : 1 < p) : ∀ (R : List (List Int)), Own p n R k → (combos p n R).Nodup := by
  refine snoc_ind (fun _ => by simp [combos]) fun R b ih O => ?_
  have hb : b ∈ R ++ [b] := List.mem_append_right _ List.mem_cons_self
  have hin : ∀ c ∈ R, c ∈ R ++ [b] := fun c hc => List.mem_append_left _ hc
  have hnd := List.nodup_append.mp O.nd
  have hne : ∀ c ∈ R, c ≠ b := fun c hc => hnd.2.2 c hc b List.mem_cons_self
  have O' : Own p n R k := ⟨fun u hu => O.row u (hin u hu), fun c hc => O.one c (hin c hc), fun c hc d hd => O.off c (hin c hc) d (hin d hd), hnd.1⟩
  rw [combos_snoc]
  have z : ∀ w ∈ combos p n R, IsRow p n w ∧ ent w (k b) = 0 := fun w hw => by
    have hm := (mem_combos R O'.row w).mp hw
    refine ⟨hm.row, (vec_zero_iff hm.row _).mp ?_⟩
    have : ∀ v : Vc (Fin p), Sp (Gs p R) v → v (k b) = 0 := fun v hv => by
      induction hv with
      | zero => rfl
      | add c _ hr ih =>
        obtain ⟨u, hu, rfl⟩ := hr
        show _ + c * vec p u (k b) = 0
        rw [ih, (vec_zero_iff (O'.row u hu) _).mpr (O.off b hb u (hin u hu) (fun e => hne u hu e.symm))]; grind
    exact this _ hm.sp
  have at_ : ∀ w ∈ combos p n R, ∀ f : Nat, f < p → ent (addM p w (f : Nat) b) (k b) = f := fun w hw f hf => by
    rw [ent_addM ((z w hw).1.len.trans (O.row b hb).len.symm), (z w hw).2, O.one b hb]
    rw [Int.zero_add, Int.mul_one, Int.emod_eq_of_lt (by omega) (by omega)]
  have inj : ∀ w ∈ combos p n R, ∀ w' ∈ combos p n R, ∀ f : Nat, f < p → ∀ f' : Nat, f' < p → addM p w (f : Nat) b = addM p w' (f' : Nat) b → w = w' ∧ f = f' := fun w hw w' hw' f hf f' hf' e => by
    have h1 := at_ w hw f hf
    rw [e, at_ w' hw' f' hf'] at h1
    have hff : f = f' := by omega
    subst hff
    refine ⟨IsRow.ext (z w hw).1 (z w' hw').1 fun i _ => ?_, rfl⟩
    have q : vec p (addM p w (f : Nat) b) i = vec p (addM p w' (f : Nat) b) i := by rw [e]
    rw [vec_addM ((z w hw).1.len.trans (O.row b hb).len.symm), vec_addM ((z w' hw').1.len.trans (O.row b hb).len.symm)] at q
    grind
  refine nodup_flat (ih O') (fun w hw => nodup_map List.nodup_range fun f hf f' hf' e => (inj w hw w hw f (List.mem_range.mp hf) f' (List.mem_range.mp hf') e).2) fun w hw w' hw' y hy hy' => ?_
  obtain ⟨f, hf, rfl⟩ := List.mem_map.mp hy
  obtain ⟨f', hf', e⟩ := List.mem_map.mp hy'
  exact (inj w hw w' hw' f (List.mem_range.mp hf) f' (List.mem_range.mp hf') e.symm).1
theorem _root_.Nat.pow_right_injective' {p a b : Nat} (hp : 1 < p) (h : p ^ a = p ^ b) : a = b := (Nat.pow_right_inj hp).mp h
theorem Own.length_eq {k k' : List Int → Nat} (hp : 1 < p) {R' : List (List Int)} (O : Own p n R k) (O' : Own p n R' k') (h : ∀ w, Mem p n R w ↔ Mem p n R' w) : R.length = R'.length := by
  have e := ((List.perm_ext_iff_of_nodup (nodup_combos hp R O) (nodup_combos hp R' O')).mpr fun w => by
    rw [mem_combos R O.row, mem_combos R' O'.row]; exact h w).length_eq
  rw [combos_length, combos_length] at e
  exact Nat.pow_right_injective' hp e
end
end LA
namespace LA
open Lean.Grind
section
variable {p : Nat} [NeZero p] {n : Nat} {R : List (List Int)}
def clearM (p : Nat) (row base : List Int) : List Int := addM p row (-(ent row (ld base))) base
def remM (p : Nat) (R : List (List Int)) (row : List Int) : List Int := R.foldl (fun left base => clearM p left base) row
def normM (p : Nat) (f : Int) (row : List Int) : List Int := row.map fun x => (f * x) % (p : Int)
def Off (p n : Nat) [NeZero p] (R : List (List Int)) (w v : List Int) : Prop := IsRow p n v ∧ ∃ u : Vc (Fin p), Sp (Gs p R) u ∧ ∀ i, vec p v i = vec p w i + u i
theorem Off.refl {w : List Int} (h : IsRow p n w) : Off p n R w w := ⟨h, _, .zero, fun i => by grind⟩
theorem Off.step {w v b : List Int} (h : Off p n R w v) (hb : IsRow p n b) (hm : b ∈ R) (f : Int) : Off p n R w (addM p v f b) := by
  obtain ⟨hv, u, hu, e⟩ := h
  refine ⟨isRow_addM hv.len hb.len, _, Sp.add (ci p f) hu ⟨b, hm, rfl⟩, fun i => ?_⟩
  rw [vec_addM (hv.len.trans hb.len.symm), e i]; grind
theorem ent_clear {row b : List Int} (h : row.length = b.length) (hb : ent b (ld b) = 1) : ent (clearM p row b) (ld b) = 0 := by
  unfold clearM
  rw [ent_addM h, hb, Int.mul_one, Int.add_right_neg, Int.zero_emod]
theorem ent_clear_other {row b : List Int} (h : IsRow p n row) (hb : IsRow p n b) {l : Nat} (hz : ent b l = 0) : ent (clearM p row b) l = ent row l := by
  unfold clearM
  rw [ent_addM (h.len.trans hb.len.symm), hz, Int.mul_zero, Int.add_zero, Int.emod_eq_of_lt (h.inR l).1 (h.inR l).2]
theorem rem_ok (G : Good p n R) : ∀ (S : List (List Int)) (w v : List Int), (∀ b ∈ S, b ∈ R) → Off p n R w v → Off p n R w (remM p S v) ∧ (∀ b ∈ S, ent (remM p S v) (ld b) = 0) ∧ ∀ b ∈ R, ent v (ld b) = 0 → ent (remM p S v) (ld b) = 0
  | [], w, v, _, h => ⟨h, fun b hb => (nomatch hb), fun b _ e => e⟩
  | c :: S, w, v, hS, h => by
    have hc := hS c List.mem_cons_self
    have h' : Off p n R w (clearM p v c) := h.step (G.row c hc) hc _
    obtain ⟨h1, h2, h3⟩ := rem_ok G S w (clearM p v c) (fun b hb => hS b (List.mem_cons_of_mem _ hb)) h'
    have e0 : ent (clearM p v c) (ld c) = 0 := ent_clear (h.1.len.trans (G.row c hc).len.symm) (G.ld' hc).2
    refine ⟨h1, fun b hb => ?_, fun b hb e => h3 b hb ?_⟩
    · rcases List.mem_cons.mp hb with rfl | hb
      · exact h3 b hc e0
      · exact h2 b hb
    · by_cases z : b = c
      · subst z; exact e0
      · rw [ent_clear_other h.1 (G.row c hc) (G.off b hb c hc z _ (G.ld' hb).1)]; exact e
theorem rem_off (G : Good p n R) {w : List Int} (h : IsRow p n w) : Off p n R w (remM p R w) ∧ ∀ b ∈ R, ent (remM p R w) (ld b) = 0 :=
  ⟨(rem_ok G R w w (fun b hb => hb) (.refl h)).1, (rem_ok G R w w (fun b hb => hb) (.refl h)).2.1⟩
theorem sp_neg {G : Vc (Fin p) → Prop} {u : Vc (Fin p)} (h : Sp G u) : Sp G (fun i => - u i) := (h.smul (-1)).cast fun i => by grind
theorem rem_zero (G : Good p n R) {w : List Int} (h : IsRow p n w) : Mem p n R w ↔ lead (remM p R w) = none := by
  obtain ⟨⟨hr, u, hu, e⟩, hz⟩ := rem_off G h
  rw [lead_none_zero hr]
  constructor
  · intro hm
    refine G.ext ⟨hr, (Sp.addS 1 hm.sp hu).cast fun i => by rw [e i]; grind⟩ Mem.zero fun b hb => by rw [hz b hb, ent_zero]
  · intro z
    rw [z] at e
    exact ⟨h, (sp_neg hu).cast fun i => by have := e i; rw [vec_zero] at this; grind⟩
theorem norm_ok {left : List Int} (h : IsRow p n left) {l : Nat} (hl : lead left = some l) {f : Int} (hf : (f * ent left l) % (p : Int) = 1) :
    IsRow p n (normM p f left) ∧ (∀ i, ent (normM p f left) i = (f * ent left i) % (p : Int)) ∧ lead (normM p f left) = some l ∧ ent (normM p f left) l = 1 := by
  have he : ∀ i, ent (normM p f left) i = (f * ent left i) % (p : Int) := fun i => by
    by_cases hi : i < left.length
    · rw [ent_lt hi, ent_lt (by unfold normM; rw [List.length_map]; exact hi)]
      simp [normM]
    · rw [ent_ge (u := normM p f left) (by unfold normM; rw [List.length_map]; omega), ent_ge (u := left) (by omega), Int.mul_zero, Int.zero_emod]
  refine ⟨⟨by unfold normM; rw [List.length_map]; exact h.len, fun x hx => ?_⟩, he, ?_, by rw [he, hf]⟩
  · obtain ⟨y, _, rfl⟩ := List.mem_map.mp hx
    exact inR_mod _
  · rw [lead_some]
    obtain ⟨h1, h2⟩ := lead_some.mp hl
    refine ⟨by rw [he, hf]; decide, fun j hj => by rw [he, h2 j hj, Int.mul_zero, Int.zero_emod]⟩
def stepM (p : Nat) (R : List (List Int)) (base : List Int) : List (List Int) := (R.map fun other => clearM p other base) ++ [base]
theorem lead_clear (G : Good p n R) {base c : List Int} (hb : IsRow p n base) {l : Nat} (hl : lead base = some l) (h1 : ent base l = 1) (hz : ∀ b ∈ R, ent base (ld b) = 0) (hc : c ∈ R) :
    IsRow p n (clearM p c base) ∧ lead (clearM p c base) = some (ld c) ∧ ent (clearM p c base) (ld c) = 1 ∧ ent (clearM p c base) l = 0 ∧ ∀ b ∈ R, b ≠ c → ent (clearM p c base) (ld b) = 0 := by
  have hr := G.row c hc
  have hlen : c.length = base.length := hr.len.trans hb.len.symm
  have hld : ld base = l := ld_of hl
  obtain ⟨c1, c2⟩ := G.ld' hc
  obtain ⟨m1, m2⟩ := lead_some.mp c1
  obtain ⟨b1, b2⟩ := lead_some.mp hl
  have e1 : ent (clearM p c base) (ld c) = 1 := by rw [ent_clear_other hr hb (hz c hc), c2]
  refine ⟨isRow_addM hr.len hb.len, ?_, e1, ?_, fun b hbR hne => ?_⟩
  · rw [lead_some]
    refine ⟨by rw [e1]; decide, fun j hj => ?_⟩
    unfold clearM
    rw [ent_addM hlen, m2 j hj]
    by_cases hjl : j < l
    · rw [b2 j hjl, Int.mul_zero, Int.zero_add, Int.zero_emod]
    · have hne : l ≠ ld c := fun z => by have := hz c hc; rw [← z, h1] at this; cases this
      have : ent c (ld base) = 0 := by rw [hld]; exact m2 l (by omega)
      rw [this]; simp
  · have := ent_clear (p := p) hlen (by rw [hld]; exact h1)
    rw [hld] at this; exact this
  · rw [ent_clear_other hr hb (hz b hbR)]
    exact G.off b hbR c hc hne _ (G.ld' hbR).1
theorem step_good (G : Good p n R) {base : List Int} (hb : IsRow p n base) {l : Nat} (hl : lead base = some l) (h1 : ent base l = 1) (hz : ∀ b ∈ R, ent base (ld b) = 0) : Good p n (stepM p R base) := by
  have L := fun c hc => lead_clear G hb hl h1 hz (c := c) hc
  have hld : ld base = l := ld_of hl
  have inj : ∀ b ∈ R, ∀ c ∈ R, clearM p b base = clearM p c base → b = c := fun b hbR c hc e => by
    have e1 := (L b hbR).2.1
    rw [e, (L c hc).2.1] at e1
    exact G.inj hbR hc (Option.some.inj e1).symm
  have nb : ∀ c ∈ R, clearM p c base ≠ base := fun c hc e => by
    have := (L c hc).2.2.2.1
    rw [e, h1] at this; cases this
  refine ⟨fun u hu => ?_, fun u hu => ?_, fun b hb' c hc' hne l' hl' => ?_, ?_⟩
  · rcases List.mem_append.mp hu with hu | hu
    · obtain ⟨c, hc, rfl⟩ := List.mem_map.mp hu; exact (L c hc).1
    · rw [List.mem_singleton] at hu; subst hu; exact hb
  · rcases List.mem_append.mp hu with hu | hu
    · obtain ⟨c, hc, rfl⟩ := List.mem_map.mp hu; exact ⟨ld c, (L c hc).2.1, (L c hc).2.2.1⟩
    · rw [List.mem_singleton] at hu; subst hu; exact ⟨l, hl, h1⟩
  · rcases List.mem_append.mp hb' with hu | hu
    · obtain ⟨b0, hb0, rfl⟩ := List.mem_map.mp hu
      have e := (L b0 hb0).2.1
      rw [hl'] at e
      cases e
      rcases List.mem_append.mp hc' with hv | hv
      · obtain ⟨c0, hc0, rfl⟩ := List.mem_map.mp hv
        exact (L c0 hc0).2.2.2.2 b0 hb0 fun z => hne (by rw [z])
      · rw [List.mem_singleton] at hv; subst hv; exact hz b0 hb0
    · rw [List.mem_singleton] at hu; subst hu
      rw [hl] at hl'; cases hl'
      rcases List.mem_append.mp hc' with hv | hv
      · obtain ⟨c0, hc0, rfl⟩ := List.mem_map.mp hv
        exact (L c0 hc0).2.2.2.1
      · rw [List.mem_singleton] at hv; exact absurd hv.symm hne
  · unfold stepM
    rw [List.nodup_append]
    refine ⟨nodup_map G.nd inj, by simp, fun a ha b hb' e => ?_⟩
    obtain ⟨c, hc, rfl⟩ := List.mem_map.mp ha
    rw [List.mem_singleton] at hb'; subst hb'
    exact nb c hc e
theorem step_span (G : Good p n R) {row base : List Int} (hrow : IsRow p n row) {l : Nat} {f g : Int} (hf : ci p g * ci p f = 1)
    (hb : IsRow p n base) (he : ∀ i, vec p base i = ci p f * vec p (remM p R row) i) (w : List Int) : Mem p n (stepM p R base) w ↔ Mem p n (R ++ [row]) w := by
  obtain ⟨⟨hr, u, hu, e⟩, hz⟩ := rem_off G hrow
  have hRrow : Rows p n (R ++ [row]) := fun v hv => by
    rcases List.mem_append.mp hv with hv | hv
    · exact G.row v hv
    · rw [List.mem_singleton] at hv; subst hv; exact hrow
  have su : Sp (Gs p (R ++ [row])) u := hu.mono fun r ⟨v, hv, z⟩ => ⟨v, List.mem_append_left _ hv, z⟩
  have sbase : Sp (Gs p (R ++ [row])) (vec p base) := by
    have s1 : Sp (Gs p (R ++ [row])) (vec p row) := .of ⟨row, List.mem_append_right _ List.mem_cons_self, rfl⟩
    exact ((Sp.addS 1 s1 su).smul (ci p f)).cast fun i => by rw [he i, e i]; grind
  have hstep : Rows p n (stepM p R base) := fun v hv => by
    rcases List.mem_append.mp hv with hv | hv
    · obtain ⟨c, hc, rfl⟩ := List.mem_map.mp hv
      exact isRow_addM (G.row c hc).len hb.len
    · rw [List.mem_singleton] at hv; subst hv; exact hb
  have tb : Sp (Gs p (stepM p R base)) (vec p base) := .of ⟨base, List.mem_append_right _ List.mem_cons_self, rfl⟩
  have tR : ∀ c ∈ R, Sp (Gs p (stepM p R base)) (vec p c) := fun c hc => by
    have s1 : Sp (Gs p (stepM p R base)) (vec p (clearM p c base)) := .of ⟨_, List.mem_append_left _ (List.mem_map_of_mem hc), rfl⟩
    exact (Sp.addS (-(ci p (-(ent c (ld base))))) s1 tb).cast fun i => by
      unfold clearM
      rw [vec_addM ((G.row c hc).len.trans hb.len.symm)]; grind
  constructor
  · intro h
    refine ⟨h.row, h.sp.trans fun r ⟨v, hv, z⟩ => z ▸ ?_⟩
    rcases List.mem_append.mp hv with hv | hv
    · obtain ⟨c, hc, rfl⟩ := List.mem_map.mp hv
      have s1 : Sp (Gs p (R ++ [row])) (vec p c) := .of ⟨c, List.mem_append_left _ hc, rfl⟩
      exact (Sp.addS (ci p (-(ent c (ld base)))) s1 sbase).cast fun i => by
        unfold clearM
        rw [vec_addM ((G.row c hc).len.trans hb.len.symm)]
    · rw [List.mem_singleton] at hv; subst hv; exact sbase
  · intro h
    refine ⟨h.row, h.sp.trans fun r ⟨v, hv, z⟩ => z ▸ ?_⟩
    rcases List.mem_append.mp hv with hv | hv
    · exact tR v hv
    · rw [List.mem_singleton] at hv; subst hv
      have su' : Sp (Gs p (stepM p R base)) u := hu.trans fun r ⟨c, hc, z⟩ => z ▸ tR c hc
      exact (Sp.addS (-1) (tb.smul (ci p g)) su').cast fun i => by
        have h1 := he i; have h2 := e i
        grind
theorem same_span (G : Good p n R) {row : List Int} (hrow : IsRow p n row) (hl : lead (remM p R row) = none) (w : List Int) : Mem p n R w ↔ Mem p n (R ++ [row]) w := by
  have hm := (rem_zero G hrow).mpr hl
  constructor
  · exact fun h => h.mono fun u hu => List.mem_append_left _ hu
  · refine fun h => h.trans fun u hu => ?_
    rcases List.mem_append.mp hu with hu | hu
    · exact Mem.of G.row hu
    · rw [List.mem_singleton] at hu; subst hu; exact hm
theorem span_snoc {R S : List (List Int)} {row : List Int} (h : ∀ w, Mem p n R w ↔ Mem p n S w) (hS : Rows p n S) (hR : Rows p n R) (hrow : IsRow p n row) (w : List Int) : Mem p n (R ++ [row]) w ↔ Mem p n (S ++ [row]) w := by
  have t : ∀ {R S : List (List Int)}, Rows p n R → (∀ w, Mem p n R w ↔ Mem p n S w) → Mem p n (R ++ [row]) w → Mem p n (S ++ [row]) w := fun {R S} hR h hw => hw.trans fun u hu => by
    rcases List.mem_append.mp hu with hu | hu
    · exact ((h u).mp (Mem.of hR hu)).mono fun v hv => List.mem_append_left _ hv
    · rw [List.mem_singleton] at hu; subst hu
      exact ⟨hrow, .of ⟨u, List.mem_append_right _ List.mem_cons_self, rfl⟩⟩
  exact ⟨t hR h, t hS fun w => (h w).symm⟩
def redStep (p : Nat) (inv : Int → Int) (R : List (List Int)) (row : List Int) : List (List Int) :=
  match lead (remM p R row) with
  | none => R
  | some l => stepM p R (normM p (inv (ent (remM p R row) l)) (remM p R row))
def redU (p : Nat) (inv : Int → Int) (rows : List (List Int)) : List (List Int) := rows.foldl (redStep p inv) []
def sortL (R : List (List Int)) : List (List Int) := R.mergeSort fun a b => decide (ld a ≤ ld b)
def redM (p : Nat) (inv : Int → Int) (rows : List (List Int)) : List (List Int) := sortL (redU p inv rows)
def InvOk (p : Nat) (inv : Int → Int) : Prop := ∀ a : Int, 0 < a → a < p → (inv a * a) % (p : Int) = 1
variable {inv : Int → Int}
theorem redStep_ok (hi : InvOk p inv) (G : Good p n R) {row : List Int} (hrow : IsRow p n row) : Good p n (redStep p inv R row) ∧ ∀ w, Mem p n (redStep p inv R row) w ↔ Mem p n (R ++ [row]) w := by
  obtain ⟨⟨hr, u, hu, e⟩, hz⟩ := rem_off G hrow
  unfold redStep
  cases hl : lead (remM p R row) with
  | none => exact ⟨G, same_span G hrow hl⟩
  | some l =>
    have hne := (lead_some.mp hl).1
    have hin := hr.inR l
    have ha : (inv (ent (remM p R row) l) * ent (remM p R row) l) % (p : Int) = 1 := hi _ (by have := hin.1; omega) hin.2
    obtain ⟨n1, n2, n3, n4⟩ := norm_ok hr hl ha
    refine ⟨step_good G n1 n3 n4 fun b hb => ?_, step_span G (l := l) (f := inv (ent (remM p R row) l)) (g := ent (remM p R row) l) hrow ?_ n1 fun i => ?_⟩
    · rw [n2, hz b hb, Int.mul_zero, Int.zero_emod]
    · rw [← ci_mul, Int.mul_comm, ← ci_mod, ha, ci_one]
    · show ci p (ent _ i) = _
      rw [n2, ci_mod, ci_mul]; rfl
theorem good_nil : Good p n [] := ⟨fun u hu => (nomatch hu), fun u hu => (nomatch hu), fun u hu => (nomatch hu), List.nodup_nil⟩
theorem redU_ok (hi : InvOk p inv) : ∀ rows : List (List Int), Rows p n rows → Good p n (redU p inv rows) ∧ ∀ w, Mem p n (redU p inv rows) w ↔ Mem p n rows w := by
  refine snoc_ind (fun _ => ⟨good_nil, fun w => Iff.rfl⟩) fun rows row ih h => ?_
  obtain ⟨h1, h2⟩ := rows_snoc h
  obtain ⟨G, hs⟩ := ih h1
  have e : redU p inv (rows ++ [row]) = redStep p inv (redU p inv rows) row := by unfold redU; rw [List.foldl_append]; rfl
  rw [e]
  obtain ⟨G', hs'⟩ := redStep_ok hi G h2
  exact ⟨G', fun w => (hs' w).trans (span_snoc hs h1 G.row h2 w)⟩
theorem Good.perm {R' : List (List Int)} (G : Good p n R) (h : R'.Perm R) : Good p n R' :=
  ⟨fun u hu => G.row u (h.mem_iff.mp hu), fun u hu => G.hd u (h.mem_iff.mp hu), fun b hb c hc => G.off b (h.mem_iff.mp hb) c (h.mem_iff.mp hc), h.nodup_iff.mpr G.nd⟩
theorem mem_perm {R' : List (List Int)} (h : R'.Perm R) (w : List Int) : Mem p n R' w ↔ Mem p n R w := ⟨fun x => x.mono fun u hu => h.mem_iff.mp hu, fun x => x.mono fun u hu => h.mem_iff.mpr hu⟩
theorem sortL_perm (R : List (List Int)) : (sortL R).Perm R := List.mergeSort_perm _ _
theorem sortL_red (G : Good p n R) : Red p n (sortL R) := by
  have G' := G.perm (sortL_perm R)
  refine ⟨G', ?_⟩
  have s := List.pairwise_mergeSort (le := fun a b : List Int => decide (ld a ≤ ld b)) (fun a b c h1 h2 => by simp at *; omega) (fun a b => by simp; omega) R
  have s' : (sortL R).Pairwise fun a b => ld a ≤ ld b := s.imp fun h => by simpa using h
  have both := List.pairwise_iff_getElem.mp s'
  refine List.pairwise_iff_getElem.mpr fun i j hi hj hij => ?_
  have h1 := both i j hi hj hij
  by_cases e : ld (sortL R)[i] = ld (sortL R)[j]
  · have := G'.inj (List.getElem_mem hi) (List.getElem_mem hj) e
    exact absurd this (List.pairwise_iff_getElem.mp G'.nd i j hi hj hij)
  · show ld _ < ld _
    omega
theorem redM_ok (hi : InvOk p inv) {rows : List (List Int)} (h : Rows p n rows) : Red p n (redM p inv rows) ∧ ∀ w, Mem p n (redM p inv rows) w ↔ Mem p n rows w := by
  obtain ⟨G, hs⟩ := redU_ok hi rows h
  exact ⟨sortL_red G, fun w => (mem_perm (sortL_perm _) w).trans (hs w)⟩
theorem red_iff (hi : InvOk p inv) {R : List (List Int)} (h : Rows p n R) : redM p inv R = R ↔ Red p n R := by
  obtain ⟨D, hs⟩ := redM_ok hi h
  constructor
  · intro e; rw [e] at D; exact D
  · intro D'; exact D.unique D' hs
end
end LA
namespace LA
open Lean.Grind
section
variable {p : Nat} [NeZero p] {n : Nat} {R : List (List Int)}
def dotM (p : Nat) (u v : List Int) : Int := ((u.zip v).map fun q => q.1 * q.2).sum % (p : Int)
def dt {F : Type} [CommRing F] (n : Nat) (u v : Vc F) : F := sm ((List.range n).map fun i => u i * v i)
theorem dt_add (u v w : Vc (Fin p)) (c : Fin p) : dt n u (fun i => v i + c * w i) = dt n u v + c * dt n u w := by
  unfold dt
  rw [← sm_add]
  congr 1
  exact List.map_congr_left fun i _ => by grind
theorem dt_comm (u v : Vc (Fin p)) : dt n u v = dt n v u := by
  unfold dt; congr 1; exact List.map_congr_left fun i _ => by grind
theorem ci_sum (xs : List Int) : ci p xs.sum = sm (xs.map (ci p)) := by
  induction xs with
  | nil => exact ci_zero
  | cons x xs ih => rw [List.sum_cons, ci_add, ih]; rfl
theorem zip_range (u v : List Int) (hu : u.length = n) (hv : v.length = n) (g : Int × Int → Int) : (u.zip v).map g = (List.range n).map fun i => g (ent u i, ent v i) := by
  refine List.ext_getElem (by simp [hu, hv]) fun i h1 h2 => ?_
  have hi : i < n := by simpa using h2
  simp only [List.getElem_map, List.getElem_zip, List.getElem_range]
  rw [ent_lt (by omega), ent_lt (by omega)]
theorem ci_dot {u v : List Int} (hu : u.length = n) (hv : v.length = n) : ci p (dotM p u v) = dt n (vec p u) (vec p v) := by
  unfold dotM dt
  rw [ci_mod, zip_range u v hu hv, ci_sum, List.map_map]
  congr 1
  exact List.map_congr_left fun i _ => ci_mul _ _
theorem dot_zero {u v : List Int} (hu : u.length = n) (hv : v.length = n) : dotM p u v = 0 ↔ dt n (vec p u) (vec p v) = 0 := by
  rw [← ci_dot hu hv]
  constructor
  · intro h; rw [h, ci_zero]
  · intro h; exact ci_inj (inR_mod _) inR_zero (h.trans ci_zero.symm)
structure Perp (p n : Nat) [NeZero p] (R : List (List Int)) (w : List Int) : Prop where
  row : IsRow p n w
  dot : ∀ b ∈ R, dt n (vec p b) (vec p w) = 0
theorem Perp.span {w : List Int} (h : Perp p n R w) {v : Vc (Fin p)} (hv : Sp (Gs p R) v) : dt n v (vec p w) = 0 := by
  rw [dt_comm]
  induction hv with
  | zero =>
    unfold dt
    exact sm_zero _ _ fun i _ => by grind
  | add c _ hr ih =>
    obtain ⟨b, hb, rfl⟩ := hr
    rw [dt_add, ih, dt_comm, h.dot b hb]; grind
theorem Perp.of_span {R' : List (List Int)} {w : List Int} (h : Perp p n R w) (hs : ∀ b ∈ R', Mem p n R b) : Perp p n R' w := ⟨h.row, fun b hb => h.span (hs b hb).sp⟩
theorem Perp.congr {R' : List (List Int)} (hr : Rows p n R) (hr' : Rows p n R') (h : ∀ w, Mem p n R w ↔ Mem p n R' w) (w : List Int) : Perp p n R w ↔ Perp p n R' w :=
  ⟨fun x => x.of_span fun b hb => (h b).mpr (Mem.of hr' hb), fun x => x.of_span fun b hb => (h b).mp (Mem.of hr hb)⟩
def freeRow (p n : Nat) (R : List (List Int)) (f : Nat) : List Int := R.foldl (fun row b => row.set (ld b) ((-(ent b f)) % (p : Int))) ((zero n).set f 1)
def frees (n : Nat) (R : List (List Int)) : List Nat := (List.range n).filter fun f => decide (f ∉ R.map ld)
def oppG (p n : Nat) (R : List (List Int)) : List (List Int) := (frees n R).map (freeRow p n R)
theorem ent_set {u : List Int} {i j : Nat} {x : Int} (hi : i < u.length) : ent (u.set i x) j = if j = i then x else ent u j := by
  by_cases h : j = i
  · subst h
    rw [if_pos rfl, ent_lt (by rw [List.length_set]; exact hi), List.getElem_set_self]
  · rw [if_neg h]
    unfold ent
    rw [List.getD_eq_getElem?_getD, List.getD_eq_getElem?_getD, List.getElem?_set_ne fun z => h z.symm]
theorem fold_ent (f : Nat) : ∀ (S : List (List Int)) (u : List Int), Good p n S → u.length = n → (∀ x ∈ u, InR p x) →
    IsRow p n (S.foldl (fun row b => row.set (ld b) ((-(ent b f)) % (p : Int))) u) ∧ (∀ b ∈ S, ent (S.foldl (fun row b => row.set (ld b) ((-(ent b f)) % (p : Int))) u) (ld b) = (-(ent b f)) % (p : Int)) ∧
    ∀ i, (∀ b ∈ S, ld b ≠ i) → ent (S.foldl (fun row b => row.set (ld b) ((-(ent b f)) % (p : Int))) u) i = ent u i := by
  intro S
  induction S using snoc_ind with
  | h0 => exact fun u _ hu hr => ⟨⟨hu, hr⟩, fun b hb => (nomatch hb), fun i _ => rfl⟩
  | hs S c ih =>
    intro u G hu hr
    have hin : ∀ b ∈ S, b ∈ S ++ [c] := fun b hb => List.mem_append_left _ hb
    have hc : c ∈ S ++ [c] := List.mem_append_right _ List.mem_cons_self
    have hnd := List.nodup_append.mp G.nd
    have G' : Good p n S := ⟨fun b hb => G.row b (hin b hb), fun b hb => G.hd b (hin b hb), fun b hb d hd => G.off b (hin b hb) d (hin d hd), hnd.1⟩
    obtain ⟨h1, h2, h3⟩ := ih u G' hu hr
    rw [List.foldl_append]
    generalize S.foldl (fun row b => row.set (ld b) ((-(ent b f)) % (p : Int))) u = v at h1 h2 h3
    have hl : ld c < v.length := by rw [h1.len, ← (G.row c hc).len]; exact lead_lt (G.ld' hc).1
    show IsRow p n (v.set (ld c) _) ∧ (∀ b ∈ S ++ [c], ent (v.set (ld c) _) (ld b) = _) ∧ ∀ i, _ → ent (v.set (ld c) _) i = ent u i
    refine ⟨⟨by rw [List.length_set]; exact h1.len, fun x hx => ?_⟩, fun b hb => ?_, fun i hi => ?_⟩
    · rcases List.mem_or_eq_of_mem_set hx with hx | rfl
      · exact h1.rng x hx
      · exact inR_mod _
    · rw [ent_set hl]
      by_cases e : ld b = ld c
      · rw [if_pos e]
        have := G.inj hb hc e
        rw [this]
      · rw [if_neg e]
        rcases List.mem_append.mp hb with hb | hb
        · exact h2 b hb
        · rw [List.mem_singleton] at hb; subst hb; exact absurd rfl e
    · rw [ent_set hl, if_neg fun e => hi c hc e.symm]
      exact h3 i fun b hb => hi b (hin b hb)
theorem mem_frees {f : Nat} : f ∈ frees n R ↔ f < n ∧ ∀ b ∈ R, ld b ≠ f := by
  unfold frees
  rw [List.mem_filter, List.mem_range, decide_eq_true_eq, List.mem_map]
  constructor
  · rintro ⟨h1, h2⟩; exact ⟨h1, fun b hb e => h2 ⟨b, hb, e⟩⟩
  · rintro ⟨h1, h2⟩; exact ⟨h1, fun ⟨b, hb, e⟩ => h2 b hb e⟩
theorem nodup_frees : (frees n R).Nodup := by unfold frees; exact List.Pairwise.filter _ List.nodup_range
theorem freeRow_ok (hp : 1 < p) (G : Good p n R) {f : Nat} (hf : f ∈ frees n R) : IsRow p n (freeRow p n R f) ∧ (∀ b ∈ R, ent (freeRow p n R f) (ld b) = (-(ent b f)) % (p : Int)) ∧
    ∀ g ∈ frees n R, ent (freeRow p n R f) g = if g = f then 1 else 0 := by
  have hfn := (mem_frees.mp hf).1
  have hl : ((zero n).set f 1).length = n := by rw [List.length_set]; exact List.length_replicate
  obtain ⟨h1, h2, h3⟩ := fold_ent f R ((zero n).set f 1) G hl fun x hx => by
    rcases List.mem_or_eq_of_mem_set hx with hx | rfl
    · exact isRow_zero.rng x hx
    · exact ⟨by decide, by omega⟩
  refine ⟨h1, h2, fun g hg => ?_⟩
  unfold freeRow
  rw [h3 g (mem_frees.mp hg).2, ent_set (by unfold zero; rw [List.length_replicate]; exact hfn), ent_zero]
def fk (n : Nat) (R : List (List Int)) (row : List Int) : Nat := ((frees n R).filter fun g => decide (ent row g = 1)).headD 0
theorem fk_free (hp : 1 < p) (G : Good p n R) {f : Nat} (hf : f ∈ frees n R) : fk n R (freeRow p n R f) = f := by
  unfold fk
  obtain ⟨_, _, h3⟩ := freeRow_ok hp G hf
  rw [filter_one nodup_frees hf (by rw [h3 f hf, if_pos rfl]; rfl) fun g hg e => by
    by_cases z : g = f
    · exact z
    · rw [h3 g hg, if_neg z] at e
      exact absurd e (by decide)]
  rfl
theorem own_oppG (hp : 1 < p) (G : Good p n R) : Own p n (oppG p n R) (fk n R) := by
  refine ⟨fun u hu => ?_, fun b hb => ?_, fun b hb c hc hne => ?_, ?_⟩
  · obtain ⟨f, hf, rfl⟩ := List.mem_map.mp hu; exact (freeRow_ok hp G hf).1
  · obtain ⟨f, hf, rfl⟩ := List.mem_map.mp hb
    rw [fk_free hp G hf, (freeRow_ok hp G hf).2.2 f hf, if_pos rfl]
  · obtain ⟨f, hf, rfl⟩ := List.mem_map.mp hb
    obtain ⟨g, hg, rfl⟩ := List.mem_map.mp hc
    rw [fk_free hp G hf, (freeRow_ok hp G hg).2.2 f hf, if_neg fun e => hne (by rw [e])]
  · exact nodup_map nodup_frees fun f hf g hg e => by rw [← fk_free hp G hf, e, fk_free hp G hg]
theorem Own.piv {k : List Int → Nat} (O : Own p n R k) : Piv (R.map fun b => (k b, vec p b)) := by
  refine ⟨?_, fun q hq => ?_, fun q hq q' hq' hne => ?_⟩
  · rw [List.map_map]
    exact nodup_map O.nd fun b hb c hc e => by
      by_cases h : b = c
      · exact h
      · have := O.off b hb c hc h
        have e' : k b = k c := e
        rw [e', O.one c hc] at this; cases this
  · obtain ⟨b, hb, rfl⟩ := List.mem_map.mp hq
    show ci p (ent b (k b)) = 1
    rw [O.one b hb, ci_one]
  · obtain ⟨b, hb, rfl⟩ := List.mem_map.mp hq
    obtain ⟨c, hc, rfl⟩ := List.mem_map.mp hq'
    show ci p (ent b (k c)) = 0
    rw [O.off c hc b hb (fun e => hne (by rw [e])), ci_zero]
theorem sm_split {α : Type} {F : Type} [CommRing F] (f : α → F) (P : α → Bool) (L : List α) : sm (L.map f) = sm ((L.filter P).map f) + sm ((L.filter fun a => !P a).map f) := by
  induction L with
  | nil => show (0 : F) = 0 + 0; grind
  | cons x L ih =>
    show f x + sm (L.map f) = _
    rw [ih]
    cases h : P x with
    | true =>
      rw [List.filter_cons_of_pos h, List.filter_cons_of_neg (by simp [h])]
      show _ = (f x + _) + _
      grind
    | false =>
      rw [List.filter_cons_of_neg (by simp [h]), List.filter_cons_of_pos (by simp [h])]
      show _ = _ + (f x + _)
      grind
theorem dt_good (G : Good p n R) {b : List Int} (hb : b ∈ R) (w : Vc (Fin p)) : dt n (vec p b) w = w (ld b) + sm ((frees n R).map fun f => vec p b f * w f) := by
  unfold dt
  rw [sm_split _ (fun f => decide (f ∈ R.map ld))]
  have e1 : (List.range n).filter (fun a => !decide (a ∈ R.map ld)) = frees n R := by
    unfold frees; congr 1; funext a; exact (decide_not).symm
  rw [e1]
  congr 1
  have hbl : ld b < n := by rw [← (G.row b hb).len]; exact lead_lt (G.ld' hb).1
  have := sm_one (fun i => vec p b i * w i) id ((List.range n).filter fun f => decide (f ∈ R.map ld)) (ld b) (by rw [List.map_id]; exact List.Pairwise.filter _ List.nodup_range)
    (List.mem_filter.mpr ⟨List.mem_range.mpr hbl, decide_eq_true (List.mem_map_of_mem hb)⟩) fun i hi hne => by
      obtain ⟨_, h2⟩ := List.mem_filter.mp hi
      obtain ⟨c, hc, rfl⟩ := List.mem_map.mp (of_decide_eq_true h2)
      have : ent b (ld c) = 0 := G.off c hc b hb (fun e => hne (by rw [e])) _ (G.ld' hc).1
      show ci p (ent b (ld c)) * _ = 0
      rw [this, ci_zero]; grind
  rw [this]
  show ci p (ent b (ld b)) * _ = _
  rw [(G.ld' hb).2, ci_one]; grind
theorem perp_oppG (hp : 1 < p) (G : Good p n R) (w : List Int) : Perp p n R w ↔ Mem p n (oppG p n R) w := by
  have O := own_oppG hp G
  have vb : ∀ f ∈ frees n R, ∀ b ∈ R, vec p (freeRow p n R f) (ld b) = - vec p b f := fun f hf b hb => by
    show ci p (ent _ _) = _
    rw [(freeRow_ok hp G hf).2.1 b hb, ci_mod, ci_neg]; rfl
  have vf : ∀ f ∈ frees n R, ∀ g ∈ frees n R, vec p (freeRow p n R f) g = if g = f then 1 else 0 := fun f hf g hg => by
    show ci p (ent _ _) = _
    rw [(freeRow_ok hp G hf).2.2 g hg]
    by_cases e : g = f
    · rw [if_pos e, if_pos e, ci_one]
    · rw [if_neg e, if_neg e, ci_zero]
  constructor
  · intro h
    refine ⟨h.row, ?_⟩
    have : Sp (In ((oppG p n R).map fun b => (fk n R b, vec p b))) (vec p w) := of_coefs fun i => ?_
    · refine this.mono fun r ⟨q, hq, e⟩ => ?_
      obtain ⟨b, hb, rfl⟩ := List.mem_map.mp hq
      exact ⟨b, hb, e⟩
    · have el : lc ((oppG p n R).map fun b => (fk n R b, vec p b)) (vec p w) i = sm ((frees n R).map fun f => vec p w f * vec p (freeRow p n R f) i) := by
        unfold lc oppG
        rw [List.map_map, List.map_map]
        congr 1
        exact List.map_congr_left fun f hf => by
          show vec p w (fk n R (freeRow p n R f)) * _ = _
          rw [fk_free hp G hf]
      rw [el]
      by_cases hin : i < n
      · by_cases hfree : ∀ b ∈ R, ld b ≠ i
        · have hi : i ∈ frees n R := mem_frees.mpr ⟨hin, hfree⟩
          rw [sm_one (fun f => vec p w f * vec p (freeRow p n R f) i) id (frees n R) i (by rw [List.map_id]; exact nodup_frees) hi fun f hf hne => by
            rw [vf f hf i hi, if_neg fun e => hne e.symm]; grind]
          rw [vf i hi i hi, if_pos rfl, Semiring.mul_one]
        · obtain ⟨b, hb, e⟩ : ∃ b ∈ R, ld b = i := by
            by_cases z : ∃ b ∈ R, ld b = i
            · exact z
            · exact absurd (fun b hb e => z ⟨b, hb, e⟩) hfree
          subst e
          have hd := h.dot b hb
          rw [dt_good G hb] at hd
          have : sm ((frees n R).map fun f => vec p w f * vec p (freeRow p n R f) (ld b)) = sm ((frees n R).map fun f => (0 : Fin p) + (-1) * (vec p b f * vec p w f)) := by
            congr 1
            exact List.map_congr_left fun f hf => by rw [vb f hf b hb]; grind
          rw [this, sm_add, sm_zero (fun _ => (0 : Fin p)) _ fun _ _ => rfl]
          grind
      · rw [vec_ge h.row (by omega), sm_zero _ _ fun f hf => by rw [vec_ge (freeRow_ok hp G hf).1 (by omega)]; grind]
  · intro h
    have hperp : ∀ f ∈ frees n R, ∀ b ∈ R, dt n (vec p b) (vec p (freeRow p n R f)) = 0 := fun f hf b hb => by
      rw [dt_good G hb, vb f hf b hb, sm_one (fun g => vec p b g * vec p (freeRow p n R f) g) id (frees n R) f (by rw [List.map_id]; exact nodup_frees) hf fun g hg hne => by
        rw [vf f hf g hg, if_neg (show ¬ g = f from hne)]; grind]
      rw [vf f hf f hf, if_pos rfl]; grind
    refine ⟨h.row, fun b hb => ?_⟩
    rw [dt_comm]
    exact Perp.span (R := oppG p n R) ⟨G.row b hb, fun u hu => by
      obtain ⟨f, hf, rfl⟩ := List.mem_map.mp hu
      rw [dt_comm]; exact hperp f hf b hb⟩ h.sp
theorem frees_length (G : Good p n R) : (frees n R).length + R.length = n := by
  have h := List.length_eq_countP_add_countP (l := List.range n) fun f => decide (f ∉ R.map ld)
  rw [List.length_range, List.countP_eq_length_filter, List.countP_eq_length_filter] at h
  have h' : ((List.range n).filter fun f => decide (¬decide (f ∉ R.map ld) = true)) = (List.range n).filter fun f => !decide (f ∉ R.map ld) := by
    congr 1; funext a; cases decide (a ∉ R.map ld) <;> rfl
  rw [h'] at h
  have e : ((List.range n).filter fun f => !decide (f ∉ R.map ld)).Perm (R.map ld) := by
    refine (List.perm_ext_iff_of_nodup (List.Pairwise.filter _ List.nodup_range) (nodup_map G.nd fun b hb c hc e => G.inj hb hc e)).mpr fun l => ?_
    rw [List.mem_filter, List.mem_range]
    constructor
    · rintro ⟨_, h⟩; simpa using h
    · intro h
      obtain ⟨b, hb, rfl⟩ := List.mem_map.mp h
      exact ⟨by rw [← (G.row b hb).len]; exact lead_lt (G.ld' hb).1, by simpa using ⟨b, hb, rfl⟩⟩
  have := e.length_eq
  rw [List.length_map] at this
  unfold frees
  omega
variable {inv : Int → Int}
def oppM (p n : Nat) (inv : Int → Int) (R : List (List Int)) : List (List Int) := redM p inv (oppG p n R)
def sumM (p : Nat) (inv : Int → Int) (U V : List (List Int)) : List (List Int) := redM p inv (U ++ V)
def meetM (p n : Nat) (inv : Int → Int) (U V : List (List Int)) : List (List Int) := oppM p n inv (redM p inv (oppM p n inv U ++ oppM p n inv V))
theorem opp_ok (hp : 1 < p) (hi : InvOk p inv) (G : Good p n R) : Red p n (oppM p n inv R) ∧ (∀ w, Mem p n (oppM p n inv R) w ↔ Perp p n R w) ∧ (oppM p n inv R).length + R.length = n := by
  have O := own_oppG hp G
  obtain ⟨D, hs⟩ := redM_ok hi O.row
  refine ⟨D, fun w => (hs w).trans (perp_oppG hp G w).symm, ?_⟩
  have e := D.good.own.length_eq hp O hs
  have := frees_length G
  show (redM p inv (oppG p n R)).length + _ = _
  rw [e]
  unfold oppG
  rw [List.length_map]
  exact this
theorem sub_eq {α : Type} {xs ys : List α} (hx : xs.Nodup) (h : ∀ a ∈ xs, a ∈ ys) (hl : ys.length ≤ xs.length) : ∀ a ∈ ys, a ∈ xs := fun a ha => by
  by_cases e : a ∈ xs
  · exact e
  · have := List.Nodup.length_le_of_subset (List.nodup_cons.mpr ⟨e, hx⟩) (l₂ := ys) fun b hb => by
      rcases List.mem_cons.mp hb with rfl | hb
      · exact ha
      · exact h b hb
    rw [List.length_cons] at this; omega
theorem Good.sub_eq (hp : 1 < p) {R' : List (List Int)} (G : Good p n R) (G' : Good p n R') (h : ∀ w, Mem p n R w → Mem p n R' w) (hl : R'.length ≤ R.length) (w : List Int) : Mem p n R w ↔ Mem p n R' w := by
  refine ⟨h w, fun hw => (mem_combos R G.row w).mp ?_⟩
  refine LA.sub_eq (nodup_combos hp R G.own) (fun a ha => (mem_combos R' G'.row a).mpr (h a ((mem_combos R G.row a).mp ha))) ?_ w ((mem_combos R' G'.row w).mpr hw)
  rw [combos_length, combos_length]
  exact Nat.pow_le_pow_right (by omega) hl
theorem Good.sub_le (hp : 1 < p) {R' : List (List Int)} (G : Good p n R) (G' : Good p n R') (h : ∀ w, Mem p n R w → Mem p n R' w) : R.length ≤ R'.length := by
  have := List.Nodup.length_le_of_subset (nodup_combos hp R G.own) (l₂ := combos p n R') fun a ha => (mem_combos R' G'.row a).mpr (h a ((mem_combos R G.row a).mp ha))
  rw [combos_length, combos_length] at this
  exact (Nat.pow_le_pow_iff_right hp).mp this
theorem opp_opp (hp : 1 < p) (hi : InvOk p inv) (D : Red p n R) : oppM p n inv (oppM p n inv R) = R := by
  obtain ⟨D1, h1, l1⟩ := opp_ok hp hi D.good
  obtain ⟨D2, h2, l2⟩ := opp_ok hp hi D1.good
  refine (D.unique D2 fun w => D.good.sub_eq hp D2.good (fun w hw => (h2 w).mpr ⟨hw.row, fun b hb => ?_⟩) (by omega) w).symm
  rw [dt_comm]
  exact ((h1 b).mp (Mem.of D1.good.row hb)).span hw.sp |> fun z => z
theorem rows_app {U V : List (List Int)} (hU : Rows p n U) (hV : Rows p n V) : Rows p n (U ++ V) := fun u hu => by
  rcases List.mem_append.mp hu with hu | hu
  · exact hU u hu
  · exact hV u hu
theorem perp_app {U V : List (List Int)} (w : List Int) : Perp p n (U ++ V) w ↔ Perp p n U w ∧ Perp p n V w := by
  constructor
  · intro h; exact ⟨⟨h.row, fun b hb => h.dot b (List.mem_append_left _ hb)⟩, ⟨h.row, fun b hb => h.dot b (List.mem_append_right _ hb)⟩⟩
  · rintro ⟨h1, h2⟩
    refine ⟨h1.row, fun b hb => ?_⟩
    rcases List.mem_append.mp hb with hb | hb
    · exact h1.dot b hb
    · exact h2.dot b hb
theorem sum_ok (hi : InvOk p inv) {U V : List (List Int)} (hU : Rows p n U) (hV : Rows p n V) : Red p n (sumM p inv U V) ∧ ∀ w, Mem p n (sumM p inv U V) w ↔ Mem p n (U ++ V) w := redM_ok hi (rows_app hU hV)
theorem meet_ok (hp : 1 < p) (hi : InvOk p inv) {U V : List (List Int)} (DU : Red p n U) (DV : Red p n V) : Red p n (meetM p n inv U V) ∧ ∀ w, Mem p n (meetM p n inv U V) w ↔ Mem p n U w ∧ Mem p n V w := by
  obtain ⟨D1, h1, _⟩ := opp_ok hp hi DU.good
  obtain ⟨D2, h2, _⟩ := opp_ok hp hi DV.good
  obtain ⟨D3, h3⟩ := redM_ok hi (rows_app D1.good.row D2.good.row)
  obtain ⟨D4, h4, _⟩ := opp_ok hp hi D3.good
  refine ⟨D4, fun w => ?_⟩
  unfold meetM
  rw [h4, Perp.congr D3.good.row (rows_app D1.good.row D2.good.row) h3, perp_app]
  have q : ∀ {W : List (List Int)}, Red p n W → ∀ w, Perp p n (oppM p n inv W) w ↔ Mem p n W w := fun {W} DW w => by
    obtain ⟨_, a1, _⟩ := opp_ok hp hi (opp_ok hp hi DW.good).1.good
    rw [← a1, opp_opp hp hi DW]
  rw [q DU, q DV]
theorem mem_app {U V : List (List Int)} (hU : Rows p n U) (hV : Rows p n V) (w : List Int) : Mem p n (U ++ V) w ↔ ∃ u v, Mem p n U u ∧ Mem p n V v ∧ w = addM p u 1 v := by
  constructor
  · intro h
    refine Mem.least (rows_app hU hV) (P := fun w => ∃ u v, Mem p n U u ∧ Mem p n V v ∧ w = addM p u 1 v) ⟨zero n, zero n, Mem.zero, Mem.zero, ?_⟩ ?_ h
    · exact IsRow.ext isRow_zero (isRow_addM List.length_replicate List.length_replicate) fun i _ => by rw [vec_addM rfl, vec_zero]; grind
    · rintro w r hw ⟨u, v, mu, mv, rfl⟩ hr
      rcases List.mem_append.mp hr with hr | hr
      · have m := Mem.of hU hr
        refine ⟨addM p u 1 r, v, mu.add m 1, mv, IsRow.ext (isRow_addM hw.len m.row.len) (isRow_addM (isRow_addM mu.row.len m.row.len).len mv.row.len) fun i _ => ?_⟩
        rw [vec_addM (hw.len.trans m.row.len.symm), vec_addM (mu.row.len.trans mv.row.len.symm), vec_addM ((isRow_addM (p := p) (f := 1) mu.row.len m.row.len).len.trans mv.row.len.symm), vec_addM (mu.row.len.trans m.row.len.symm), ci_one]; grind
      · have m := Mem.of hV hr
        refine ⟨u, addM p v 1 r, mu, mv.add m 1, IsRow.ext (isRow_addM hw.len m.row.len) (isRow_addM mu.row.len (isRow_addM mv.row.len m.row.len).len) fun i _ => ?_⟩
        rw [vec_addM (hw.len.trans m.row.len.symm), vec_addM (mu.row.len.trans mv.row.len.symm), vec_addM (mu.row.len.trans (isRow_addM (p := p) (f := 1) mv.row.len m.row.len).len.symm), vec_addM (mv.row.len.trans m.row.len.symm), ci_one]; grind
  · rintro ⟨u, v, mu, mv, rfl⟩
    exact (mu.mono fun a ha => List.mem_append_left _ ha).add (mv.mono fun a ha => List.mem_append_right _ ha) 1
theorem inj_len {α β : Type} {xs : List α} {ys : List β} (hx : xs.Nodup) (f : α → β) (hf : ∀ a ∈ xs, f a ∈ ys) (hi : ∀ a ∈ xs, ∀ b ∈ xs, f a = f b → a = b) : xs.length ≤ ys.length := by
  have := List.Nodup.length_le_of_subset (nodup_map hx hi) (l₂ := ys) fun b hb => by
    obtain ⟨a, ha, rfl⟩ := List.mem_map.mp hb; exact hf a ha
  rw [List.length_map] at this; exact this
def prod {α β : Type} (xs : List α) (ys : List β) : List (α × β) := xs.flatMap fun a => ys.map fun b => (a, b)
theorem mem_prod {α β : Type} {xs : List α} {ys : List β} {q : α × β} : q ∈ prod xs ys ↔ q.1 ∈ xs ∧ q.2 ∈ ys := by
  unfold prod
  rw [List.mem_flatMap]
  constructor
  · rintro ⟨a, ha, h⟩
    obtain ⟨b, hb, rfl⟩ := List.mem_map.mp h
    exact ⟨ha, hb⟩
  · rintro ⟨h1, h2⟩; exact ⟨q.1, h1, List.mem_map.mpr ⟨q.2, h2, rfl⟩⟩
theorem nodup_prod {α β : Type} {xs : List α} {ys : List β} (hx : xs.Nodup) (hy : ys.Nodup) : (prod xs ys).Nodup :=
  nodup_flat hx (fun a _ => nodup_map hy fun b _ c _ e => (Prod.mk.inj e).2) fun a _ b _ y h1 h2 => by
    obtain ⟨c, _, rfl⟩ := List.mem_map.mp h1
    obtain ⟨d, _, e⟩ := List.mem_map.mp h2
    exact (Prod.mk.inj e).1.symm
theorem length_prod {α β : Type} (xs : List α) (ys : List β) : (prod xs ys).length = xs.length * ys.length := by
  unfold prod
  rw [List.length_flatMap]
  simp only [List.length_map, List.map_const', List.sum_replicate_nat]
theorem alg1 {F : Type} [CommRing F] {a b c d : F} (h : a + 1 * b = c + 1 * d) : a + -1 * c = d + -1 * b := by grind
theorem alg2 {F : Type} [CommRing F] {a b c k : F} (h : a + k * c = b + k * c) : a = b := by grind
theorem alg3 {F : Type} [CommRing F] {a b c : F} (h : a + 1 * b = a + 1 * c) : b = c := by grind
theorem alg4 {F : Type} [CommRing F] {a b c d e f : F} (h : a + 1 * e = c + 1 * f) (h' : b + -1 * e = d + -1 * f) : a + 1 * b = c + 1 * d := by grind
theorem dims (hp : 1 < p) {U V S I : List (List Int)} (GU : Good p n U) (GV : Good p n V) (GS : Good p n S) (GI : Good p n I)
    (hS : ∀ w, Mem p n S w ↔ Mem p n (U ++ V) w) (hI : ∀ w, Mem p n I w ↔ Mem p n U w ∧ Mem p n V w) : S.length + I.length = U.length + V.length := by
  classical
  have cU := fun w => mem_combos U GU.row w
  have cV := fun w => mem_combos V GV.row w
  have cS := fun w => mem_combos S GS.row w
  have cI := fun w => mem_combos I GI.row w
  have nU := nodup_combos hp U GU.own
  have nV := nodup_combos hp V GV.own
  have nS := nodup_combos hp S GS.own
  have nI := nodup_combos hp I GI.own
  have dec : ∀ w, ∃ q : List Int × List Int, Mem p n S w → Mem p n U q.1 ∧ Mem p n V q.2 ∧ w = addM p q.1 1 q.2 := fun w => by
    by_cases h : Mem p n S w
    · obtain ⟨u, v, a, b, c⟩ := (mem_app GU.row GV.row w).mp ((hS w).mp h)
      exact ⟨(u, v), fun _ => ⟨a, b, c⟩⟩
    · exact ⟨([], []), fun z => absurd z h⟩
  let sec := fun w => Classical.choose (dec w)
  have hsec : ∀ w, Mem p n S w → Mem p n U (sec w).1 ∧ Mem p n V (sec w).2 ∧ w = addM p (sec w).1 1 (sec w).2 := fun w => Classical.choose_spec (dec w)
  have eqS : (prod (combos p n U) (combos p n V)).length = (prod (combos p n S) (combos p n I)).length := by
    refine Nat.le_antisymm ?_ ?_
    · refine inj_len (nodup_prod nU nV) (fun q => (addM p q.1 1 q.2, addM p q.1 (-1) (sec (addM p q.1 1 q.2)).1)) (fun q hq => ?_) fun q hq q' hq' e => ?_
      · obtain ⟨h1, h2⟩ := mem_prod.mp hq
        have mu := (cU _).mp h1
        have mv := (cV _).mp h2
        have ms : Mem p n S (addM p q.1 1 q.2) := (hS _).mpr ((mem_app GU.row GV.row _).mpr ⟨_, _, mu, mv, rfl⟩)
        obtain ⟨a, b, c⟩ := hsec _ ms
        refine mem_prod.mpr ⟨(cS _).mpr ms, (cI _).mpr ((hI _).mpr ⟨mu.add a (-1), ?_⟩)⟩
        have : addM p q.1 (-1) (sec (addM p q.1 1 q.2)).1 = addM p (sec (addM p q.1 1 q.2)).2 (-1) q.2 := by
          refine IsRow.ext (isRow_addM mu.row.len a.row.len) (isRow_addM b.row.len mv.row.len) fun i _ => ?_
          have := congrArg (fun z => vec p z i) c
          rw [vec_addM (mu.row.len.trans mv.row.len.symm), vec_addM (a.row.len.trans b.row.len.symm)] at this
          rw [vec_addM (mu.row.len.trans a.row.len.symm), vec_addM (b.row.len.trans mv.row.len.symm), ci_neg, ci_one]
          rw [ci_one] at this
          exact alg1 this
        rw [this]; exact b.add mv (-1)
      · obtain ⟨h1, h2⟩ := mem_prod.mp hq
        obtain ⟨h1', h2'⟩ := mem_prod.mp hq'
        have mu := ((cU _).mp h1).row
        have mv := ((cV _).mp h2).row
        have mu' := ((cU _).mp h1').row
        have mv' := ((cV _).mp h2').row
        obtain ⟨e1, e2⟩ := Prod.mk.inj e
        have ms : Mem p n S (addM p q.1 1 q.2) := (hS _).mpr ((mem_app GU.row GV.row _).mpr ⟨_, _, (cU _).mp h1, (cV _).mp h2, rfl⟩)
        have a := (hsec _ ms).1.row
        rw [← e1] at e2
        have q1 : q.1 = q'.1 := IsRow.ext mu mu' fun i _ => by
          have := congrArg (fun z => vec p z i) e2
          rw [vec_addM (mu.len.trans a.len.symm), vec_addM (mu'.len.trans a.len.symm)] at this
          exact alg2 this
        have q2 : q.2 = q'.2 := IsRow.ext mv mv' fun i _ => by
          have := congrArg (fun z => vec p z i) e1
          rw [vec_addM (mu.len.trans mv.len.symm), vec_addM (mu'.len.trans mv'.len.symm), q1, ci_one] at this
          exact alg3 this
        exact Prod.ext q1 q2
    · refine inj_len (nodup_prod nS nI) (fun q => (addM p (sec q.1).1 1 q.2, addM p (sec q.1).2 (-1) q.2)) (fun q hq => ?_) fun q hq q' hq' e => ?_
      · obtain ⟨h1, h2⟩ := mem_prod.mp hq
        obtain ⟨a, b, c⟩ := hsec _ ((cS _).mp h1)
        have mi := (hI _).mp ((cI _).mp h2)
        exact mem_prod.mpr ⟨(cU _).mpr (a.add mi.1 1), (cV _).mpr (b.add mi.2 (-1))⟩
      · obtain ⟨h1, h2⟩ := mem_prod.mp hq
        obtain ⟨h1', h2'⟩ := mem_prod.mp hq'
        have m1 := (cS _).mp h1
        have m1' := (cS _).mp h1'
        obtain ⟨a, b, c⟩ := hsec _ m1
        obtain ⟨a', b', c'⟩ := hsec _ m1'
        have mi := ((cI _).mp h2).row
        have mi' := ((cI _).mp h2').row
        obtain ⟨e1, e2⟩ := Prod.mk.inj e
        have q1 : q.1 = q'.1 := IsRow.ext m1.row m1'.row fun i _ => by
          have z1 := congrArg (fun z => vec p z i) e1
          have z2 := congrArg (fun z => vec p z i) e2
          have y1 := congrArg (fun z => vec p z i) c
          have y2 := congrArg (fun z => vec p z i) c'
          rw [vec_addM (a.row.len.trans mi.len.symm), vec_addM (a'.row.len.trans mi'.len.symm)] at z1
          rw [vec_addM (b.row.len.trans mi.len.symm), vec_addM (b'.row.len.trans mi'.len.symm)] at z2
          rw [vec_addM (a.row.len.trans b.row.len.symm)] at y1
          rw [vec_addM (a'.row.len.trans b'.row.len.symm)] at y2
          rw [ci_neg, ci_one] at z2
          rw [ci_one] at z1 y1 y2
          rw [y1, y2]
          exact alg4 z1 z2
        have q2 : q.2 = q'.2 := IsRow.ext mi mi' fun i _ => by
          have z1 := congrArg (fun z => vec p z i) e1
          rw [vec_addM (a.row.len.trans mi.len.symm), vec_addM (a'.row.len.trans mi'.len.symm), q1] at z1
          rw [ci_one] at z1
          exact alg3 z1
        exact Prod.ext q1 q2
  rw [length_prod, length_prod, combos_length, combos_length, combos_length, combos_length, ← Nat.pow_add, ← Nat.pow_add] at eqS
  exact (Nat.pow_right_injective' hp eqS).symm
end
end LA
namespace LA
open Lean.Grind
section
variable {p : Nat} [NeZero p] {n : Nat} {inv : Int → Int} {U V W T : List (List Int)}
theorem Red.eq_iff (D : Red p n U) (D' : Red p n V) : U = V ↔ ∀ w, Mem p n U w ↔ Mem p n V w := ⟨fun e w => e ▸ Iff.rfl, fun h => D.unique D' h⟩
theorem sum_mem (hi : InvOk p inv) (DU : Red p n U) (DV : Red p n V) (w : List Int) : Mem p n (sumM p inv U V) w ↔ ∃ u v, Mem p n U u ∧ Mem p n V v ∧ w = addM p u 1 v :=
  ((sum_ok hi DU.good.row DV.good.row).2 w).trans (mem_app DU.good.row DV.good.row w)
theorem sum_red (hi : InvOk p inv) (DU : Red p n U) (DV : Red p n V) : Red p n (sumM p inv U V) := (sum_ok hi DU.good.row DV.good.row).1
theorem meet_red (hp : 1 < p) (hi : InvOk p inv) (DU : Red p n U) (DV : Red p n V) : Red p n (meetM p n inv U V) := (meet_ok hp hi DU DV).1
theorem meet_mem (hp : 1 < p) (hi : InvOk p inv) (DU : Red p n U) (DV : Red p n V) (w : List Int) : Mem p n (meetM p n inv U V) w ↔ Mem p n U w ∧ Mem p n V w := (meet_ok hp hi DU DV).2 w
theorem add_zero_right {u : List Int} (hu : IsRow p n u) : addM p u 1 (zero n) = u := IsRow.ext (isRow_addM hu.len List.length_replicate) hu fun i _ => by
  rw [vec_addM (v := zero n) (hu.len.trans (isRow_zero (p := p) (n := n)).len.symm), vec_zero]; grind
theorem add_zero_left {u : List Int} (hu : IsRow p n u) : addM p (zero n) 1 u = u := IsRow.ext (isRow_addM List.length_replicate hu.len) hu fun i _ => by
  rw [vec_addM (u := zero n) ((isRow_zero (p := p) (n := n)).len.trans hu.len.symm), vec_zero, ci_one]; grind
theorem sum_left (hi : InvOk p inv) (DU : Red p n U) (DV : Red p n V) {w : List Int} (h : Mem p n U w) : Mem p n (sumM p inv U V) w := (sum_mem hi DU DV w).mpr ⟨w, zero n, h, Mem.zero, (add_zero_right h.row).symm⟩
theorem sum_right (hi : InvOk p inv) (DU : Red p n U) (DV : Red p n V) {w : List Int} (h : Mem p n V w) : Mem p n (sumM p inv U V) w := (sum_mem hi DU DV w).mpr ⟨zero n, w, Mem.zero, h, (add_zero_left h.row).symm⟩
theorem sum_le (hi : InvOk p inv) (DU : Red p n U) (DV : Red p n V) {R : List (List Int)} (h1 : ∀ w, Mem p n U w → Mem p n R w) (h2 : ∀ w, Mem p n V w → Mem p n R w) (w : List Int) (h : Mem p n (sumM p inv U V) w) : Mem p n R w := by
  obtain ⟨u, v, a, b, rfl⟩ := (sum_mem hi DU DV w).mp h
  exact (h1 u a).add (h2 v b) 1
theorem sub_back {u v : List Int} (hu : IsRow p n u) (hv : IsRow p n v) : addM p (addM p u 1 v) (-1) u = v := by
  have h := isRow_addM (p := p) (f := 1) hu.len hv.len
  refine IsRow.ext (isRow_addM h.len hu.len) hv fun i _ => ?_
  rw [vec_addM (h.len.trans hu.len.symm), vec_addM (hu.len.trans hv.len.symm), ci_neg, ci_one]; grind
theorem modular (hp : 1 < p) (hi : InvOk p inv) (DU : Red p n U) (DV : Red p n V) (DW : Red p n W) (hUW : ∀ w, Mem p n U w → Mem p n W w) : sumM p inv U (meetM p n inv V W) = meetM p n inv (sumM p inv U V) W := by
  have DM := meet_red hp hi DV DW
  have DS := sum_red hi DU DV
  refine (sum_red hi DU DM).unique (meet_red hp hi DS DW) fun w => ?_
  rw [meet_mem hp hi DS DW, sum_mem hi DU DM, sum_mem hi DU DV]
  constructor
  · rintro ⟨u, x, a, b, rfl⟩
    obtain ⟨b1, b2⟩ := (meet_mem hp hi DV DW x).mp b
    exact ⟨⟨u, x, a, b1, rfl⟩, (hUW u a).add b2 1⟩
  · rintro ⟨⟨u, v, a, b, rfl⟩, h⟩
    refine ⟨u, v, a, (meet_mem hp hi DV DW v).mpr ⟨b, ?_⟩, rfl⟩
    have := h.add (hUW u a) (-1)
    rw [sub_back a.row b.row] at this; exact this
theorem meet_assoc (hp : 1 < p) (hi : InvOk p inv) (DU : Red p n U) (DV : Red p n V) (DW : Red p n W) : meetM p n inv U (meetM p n inv V W) = meetM p n inv (meetM p n inv U V) W := by
  have D1 := meet_red hp hi DV DW
  have D2 := meet_red hp hi DU DV
  refine (meet_red hp hi DU D1).unique (meet_red hp hi D2 DW) fun w => ?_
  rw [meet_mem hp hi DU D1, meet_mem hp hi DV DW, meet_mem hp hi D2 DW, meet_mem hp hi DU DV, and_assoc]
theorem sum_assoc (hi : InvOk p inv) (DU : Red p n U) (DV : Red p n V) (DW : Red p n W) : sumM p inv U (sumM p inv V W) = sumM p inv (sumM p inv U V) W := by
  have D1 := sum_red hi DV DW
  have D2 := sum_red hi DU DV
  refine (sum_red hi DU D1).unique (sum_red hi D2 DW) fun w => ⟨fun h => ?_, fun h => ?_⟩
  · refine sum_le hi DU D1 (fun u hu => sum_left hi D2 DW (sum_left hi DU DV hu)) (fun x hx => ?_) w h
    exact sum_le hi DV DW (fun v hv => sum_left hi D2 DW (sum_right hi DU DV hv)) (fun v hv => sum_right hi D2 DW hv) x hx
  · refine sum_le hi D2 DW (fun x hx => ?_) (fun v hv => sum_right hi DU D1 (sum_right hi DV DW hv)) w h
    exact sum_le hi DU DV (fun v hv => sum_left hi DU D1 hv) (fun v hv => sum_right hi DU D1 (sum_left hi DV DW hv)) x hx
theorem meet_eq_iff (hp : 1 < p) (hi : InvOk p inv) (DU : Red p n U) (DV : Red p n V) : meetM p n inv U V = U ↔ ∀ w, Mem p n U w → Mem p n V w := by
  rw [(meet_red hp hi DU DV).eq_iff DU]
  constructor
  · intro h w hw; exact ((meet_mem hp hi DU DV w).mp ((h w).mpr hw)).2
  · intro h w
    rw [meet_mem hp hi DU DV]
    exact ⟨fun x => x.1, fun x => ⟨x, h w x⟩⟩
theorem sum_eq_iff (hi : InvOk p inv) (DU : Red p n U) (DV : Red p n V) : sumM p inv U V = V ↔ ∀ w, Mem p n U w → Mem p n V w := by
  rw [(sum_red hi DU DV).eq_iff DV]
  constructor
  · intro h w hw; exact (h w).mp (sum_left hi DU DV hw)
  · intro h w
    exact ⟨fun x => sum_le hi DU DV h (fun _ z => z) w x, fun x => sum_right hi DU DV x⟩
theorem dims_sum_meet (hp : 1 < p) (hi : InvOk p inv) (DU : Red p n U) (DV : Red p n V) : (sumM p inv U V).length + (meetM p n inv U V).length = U.length + V.length :=
  dims hp DU.good DV.good (sum_red hi DU DV).good (meet_red hp hi DU DV).good (sum_ok hi DU.good.row DV.good.row).2 (meet_mem hp hi DU DV)
end
end LA
namespace LA
open Lean.Grind
section
variable {p : Nat} [NeZero p] {n : Nat} {inv : Int → Int} {U V W T : List (List Int)}
theorem opp_red (hp : 1 < p) (hi : InvOk p inv) (DU : Red p n U) : Red p n (oppM p n inv U) := (opp_ok hp hi DU.good).1
theorem opp_mem (hp : 1 < p) (hi : InvOk p inv) (DU : Red p n U) (w : List Int) : Mem p n (oppM p n inv U) w ↔ Perp p n U w := (opp_ok hp hi DU.good).2.1 w
theorem opp_len (hp : 1 < p) (hi : InvOk p inv) (DU : Red p n U) : (oppM p n inv U).length + U.length = n := (opp_ok hp hi DU.good).2.2
theorem opp_sum (hp : 1 < p) (hi : InvOk p inv) (DU : Red p n U) (DV : Red p n V) : oppM p n inv (sumM p inv U V) = meetM p n inv (oppM p n inv U) (oppM p n inv V) := by
  have DS := sum_red hi DU DV
  have D1 := opp_red hp hi DU
  have D2 := opp_red hp hi DV
  refine (opp_red hp hi DS).unique (meet_red hp hi D1 D2) fun w => ?_
  rw [opp_mem hp hi DS, meet_mem hp hi D1 D2, opp_mem hp hi DU, opp_mem hp hi DV, ← perp_app]
  exact Perp.congr DS.good.row (rows_app DU.good.row DV.good.row) (sum_ok hi DU.good.row DV.good.row).2 w
theorem opp_meet (hp : 1 < p) (hi : InvOk p inv) (DU : Red p n U) (DV : Red p n V) : oppM p n inv (meetM p n inv U V) = sumM p inv (oppM p n inv U) (oppM p n inv V) :=
  opp_opp hp hi (sum_red hi (opp_red hp hi DU) (opp_red hp hi DV))
theorem opp_down (hp : 1 < p) (hi : InvOk p inv) (DU : Red p n U) (DV : Red p n V) (h : ∀ w, Mem p n U w → Mem p n V w) (w : List Int) (hw : Mem p n (oppM p n inv V) w) : Mem p n (oppM p n inv U) w :=
  (opp_mem hp hi DU w).mpr (((opp_mem hp hi DV w).mp hw).of_span fun b hb => h b (Mem.of DU.good.row hb))
theorem opp_inside (hp : 1 < p) (hi : InvOk p inv) (DU : Red p n U) (DV : Red p n V) : (∀ w, Mem p n U w → Mem p n V w) ↔ ∀ w, Mem p n (oppM p n inv V) w → Mem p n (oppM p n inv U) w := by
  constructor
  · exact opp_down hp hi DU DV
  · intro h
    have := opp_down hp hi (opp_red hp hi DV) (opp_red hp hi DU) h
    rwa [opp_opp hp hi DU, opp_opp hp hi DV] at this
end
end LA
namespace LA
open Lean.Grind
section
variable {p : Nat} [NeZero p] {n : Nat} {inv : Int → Int} {U V W T S : List (List Int)}
theorem sum_comm (hi : InvOk p inv) (DU : Red p n U) (DV : Red p n V) : sumM p inv U V = sumM p inv V U :=
  (sum_red hi DU DV).unique (sum_red hi DV DU) fun w =>
    ⟨sum_le hi DU DV (fun _ h => sum_right hi DV DU h) (fun _ h => sum_left hi DV DU h) w, sum_le hi DV DU (fun _ h => sum_right hi DU DV h) (fun _ h => sum_left hi DU DV h) w⟩
theorem meet_comm (hp : 1 < p) (hi : InvOk p inv) (DU : Red p n U) (DV : Red p n V) : meetM p n inv U V = meetM p n inv V U :=
  (meet_red hp hi DU DV).unique (meet_red hp hi DV DU) fun w => by rw [meet_mem hp hi DU DV, meet_mem hp hi DV DU, And.comm]
def dist (p n : Nat) (inv : Int → Int) (U V : List (List Int)) : Int := ((sumM p inv U V).length : Int) - ((meetM p n inv U V).length : Int)
theorem dist_comm (hp : 1 < p) (hi : InvOk p inv) (DU : Red p n U) (DV : Red p n V) : dist p n inv U V = dist p n inv V U := by
  unfold dist; rw [sum_comm hi DU DV, meet_comm hp hi DU DV]
theorem meet_le_sum (hp : 1 < p) (hi : InvOk p inv) (DU : Red p n U) (DV : Red p n V) :
    (meetM p n inv U V).length ≤ U.length ∧ (meetM p n inv U V).length ≤ V.length ∧ U.length ≤ (sumM p inv U V).length ∧ V.length ≤ (sumM p inv U V).length := by
  have DM := (meet_red hp hi DU DV).good
  have DS := (sum_red hi DU DV).good
  exact ⟨DM.sub_le hp DU.good fun w h => ((meet_mem hp hi DU DV w).mp h).1, DM.sub_le hp DV.good fun w h => ((meet_mem hp hi DU DV w).mp h).2,
    DU.good.sub_le hp DS fun w h => sum_left hi DU DV h, DV.good.sub_le hp DS fun w h => sum_right hi DU DV h⟩
theorem dist_zero (hp : 1 < p) (hi : InvOk p inv) (DU : Red p n U) (DV : Red p n V) : dist p n inv U V = 0 ↔ U = V := by
  obtain ⟨a, b, c, d⟩ := meet_le_sum hp hi DU DV
  constructor
  · intro h
    unfold dist at h
    have e1 := (meet_red hp hi DU DV).unique DU ((meet_red hp hi DU DV).good.sub_eq hp DU.good (fun w h => ((meet_mem hp hi DU DV w).mp h).1) (by omega))
    have e2 := (meet_red hp hi DU DV).unique DV ((meet_red hp hi DU DV).good.sub_eq hp DV.good (fun w h => ((meet_mem hp hi DU DV w).mp h).2) (by omega))
    exact e1.symm.trans e2
  · rintro rfl
    unfold dist
    rw [(sum_eq_iff hi DU DU).mpr fun _ h => h, (meet_eq_iff hp hi DU DU).mpr fun _ h => h]
    omega
theorem dist_tri (hp : 1 < p) (hi : InvOk p inv) (DU : Red p n U) (DV : Red p n V) (DT : Red p n T) : dist p n inv U V ≤ dist p n inv U T + dist p n inv T V := by
  have D1 := sum_red hi DU DT
  have D2 := sum_red hi DT DV
  have D3 := sum_red hi DU DV
  have e1 := dims_sum_meet hp hi DU DV
  have e2 := dims_sum_meet hp hi DU DT
  have e3 := dims_sum_meet hp hi DT DV
  have e4 := dims_sum_meet hp hi D1 D2
  have e5 := DT.good.sub_le hp (meet_red hp hi D1 D2).good fun w h => (meet_mem hp hi D1 D2 w).mpr ⟨sum_right hi DU DT h, sum_left hi DT DV h⟩
  have e6 := D3.good.sub_le hp (sum_red hi D1 D2).good (sum_le hi DU DV (fun w h => sum_left hi D1 D2 (sum_left hi DU DT h)) fun w h => sum_right hi D1 D2 (sum_right hi DT DV h))
  unfold dist
  omega
theorem dist_opp (hp : 1 < p) (hi : InvOk p inv) (DU : Red p n U) (DV : Red p n V) : dist p n inv (oppM p n inv U) (oppM p n inv V) = dist p n inv U V := by
  unfold dist
  rw [← opp_sum hp hi DU DV, ← opp_meet hp hi DU DV]
  have e1 := opp_len hp hi (sum_red hi DU DV)
  have e2 := opp_len hp hi (meet_red hp hi DU DV)
  omega
structure Grows (p n : Nat) [NeZero p] (U V : List (List Int)) : Prop where
  sub : ∀ w, Mem p n U w → Mem p n V w
  len : V.length = U.length + 1
theorem Grows.ne (g : Grows p n U V) : U ≠ V := fun e => by
  have := g.len
  rw [e] at this
  omega
def addR (p : Nat) (inv : Int → Int) (S : List (List Int)) (r : List Int) : List (List Int) := redM p inv (S ++ [r])
theorem rows_end {r : List Int} (hS : Rows p n S) (hr : IsRow p n r) : Rows p n (S ++ [r]) := rows_app hS fun u hu => by rw [List.mem_singleton] at hu; subst hu; exact hr
theorem addR_ok (hp : 1 < p) (hi : InvOk p inv) (D : Red p n S) {r : List Int} (hr : IsRow p n r) : Red p n (addR p inv S r) ∧ (∀ w, Mem p n (addR p inv S r) w ↔ Mem p n (S ++ [r]) w) ∧ (addR p inv S r ≠ S → Grows p n S (addR p inv S r)) := by
  obtain ⟨D1, h1⟩ : Red p n (addR p inv S r) ∧ ∀ w, Mem p n (addR p inv S r) w ↔ Mem p n (S ++ [r]) w := redM_ok hi (rows_end D.good.row hr)
  have sub : ∀ w, Mem p n S w → Mem p n (addR p inv S r) w := fun w hw => (h1 w).mpr (hw.mono fun u hu => List.mem_append_left _ hu)
  refine ⟨D1, h1, fun hne => ⟨sub, ?_⟩⟩
  obtain ⟨G2, h2⟩ := redStep_ok hi D.good hr
  have hspan : ∀ w, Mem p n (addR p inv S r) w ↔ Mem p n (redStep p inv S r) w := fun w => (h1 w).trans (h2 w).symm
  have e : (addR p inv S r).length = (redStep p inv S r).length := Own.length_eq hp D1.good.own G2.own hspan
  have hl : (redStep p inv S r).length = S.length ∨ (redStep p inv S r).length = S.length + 1 := by
    unfold redStep
    split
    · exact .inl rfl
    · refine .inr ?_
      unfold stepM
      rw [List.length_append, List.length_map, List.length_singleton]
  rcases hl with hl | hl
  · exact absurd (D1.unique D fun w => (D.good.sub_eq hp D1.good sub (by omega) w).symm) hne
  · omega
inductive Up (p n : Nat) [NeZero p] : List (List Int) → List (List (List Int)) → List (List Int) → Prop
  | nil {A : List (List Int)} : Up p n A [] A
  | cons {A B : List (List Int)} {L : List (List (List Int))} {C : List (List Int)} : Red p n B → Grows p n A B → Up p n B L C → Up p n A (B :: L) C
def climbL (p : Nat) (inv : Int → Int) : List (List Int) → List (List Int) → List (List (List Int))
  | _, [] => []
  | S, r :: rs => if addR p inv S r = S then climbL p inv S rs else addR p inv S r :: climbL p inv (addR p inv S r) rs
theorem climbL_ok (hp : 1 < p) (hi : InvOk p inv) : ∀ (rs S T : List (List Int)), Red p n S → Rows p n rs → Red p n T → (∀ w, Mem p n T w ↔ Mem p n (S ++ rs) w) → Up p n S (climbL p inv S rs) T
  | [], S, T, D, _, DT, h => by
    have : T = S := DT.unique D fun w => by rw [h, List.append_nil]
    subst this
    exact .nil
  | r :: rs, S, T, D, hr, DT, h => by
    have h1 := hr r List.mem_cons_self
    have h2 : Rows p n rs := fun u hu => hr u (List.mem_cons_of_mem _ hu)
    obtain ⟨D1, m1, g1⟩ := addR_ok hp hi D h1
    have hs : ∀ w, Mem p n T w ↔ Mem p n (addR p inv S r ++ rs) w := fun w => by
      rw [h w]
      have e : S ++ r :: rs = (S ++ [r]) ++ rs := by rw [List.append_assoc]; rfl
      rw [e]
      have hsn := rows_end D.good.row h1
      constructor
      · exact Mem.trans fun u hu => by
          rcases List.mem_append.mp hu with hu | hu
          · exact ((m1 u).mpr (Mem.of hsn hu)).mono fun v hv => List.mem_append_left _ hv
          · exact Mem.of (rows_app D1.good.row h2) (List.mem_append_right _ hu)
      · exact Mem.trans fun u hu => by
          rcases List.mem_append.mp hu with hu | hu
          · exact ((m1 u).mp (Mem.of D1.good.row hu)).mono fun v hv => List.mem_append_left _ hv
          · exact Mem.of (rows_app hsn h2) (List.mem_append_right _ hu)
    unfold climbL
    split
    · rename_i e
      rw [e] at hs
      exact climbL_ok hp hi rs S T D h2 DT hs
    · rename_i e
      exact .cons D1 (g1 e) (climbL_ok hp hi rs _ T D1 h2 DT hs)
theorem Up.len {L : List (List (List Int))} (h : Up p n U L T) : T.length = U.length + L.length := by
  induction h with
  | nil => rfl
  | cons _ g _ ih => rw [ih, g.len, List.length_cons]; omega
theorem Up.red {L : List (List (List Int))} (h : Up p n U L T) : ∀ S ∈ L, Red p n S := by
  induction h with
  | nil => intro S hS; cases hS
  | cons d _ _ ih =>
    intro S hS
    rcases List.mem_cons.mp hS with rfl | hS
    · exact d
    · exact ih S hS
theorem Up.last {L : List (List (List Int))} (h : Up p n U L T) : (U :: L).getLast? = some T := by
  induction h with
  | nil => rfl
  | cons _ _ _ ih => rw [List.getLast?_cons_cons]; exact ih
end
section
variable {α : Type} (r : α → α → Bool)
def nbs : List α → Bool
  | a :: b :: l => r a b && nbs (b :: l)
  | _ => true
theorem nbs_append : ∀ (l : List α) (a : α) (m : List α), nbs r (l ++ a :: m) = (nbs r (l ++ [a]) && nbs r (a :: m))
  | [], a, m => by simp [nbs]
  | [x], a, m => by simp [nbs]
  | x :: y :: l, a, m => by
    have := nbs_append (y :: l) a m
    simp only [List.cons_append] at this ⊢
    show (r x y && nbs r (y :: (l ++ a :: m))) = ((r x y && nbs r (y :: (l ++ [a]))) && _)
    rw [this, Bool.and_assoc]
theorem nbs_rev (hs : ∀ a b, r a b = r b a) : ∀ l : List α, nbs r l.reverse = nbs r l
  | [] => rfl
  | [_] => rfl
  | a :: b :: l => by
    rw [List.reverse_cons, List.reverse_cons, List.append_assoc]
    show nbs r (l.reverse ++ b :: [a]) = _
    rw [nbs_append, ← List.reverse_cons, nbs_rev hs (b :: l)]
    show (nbs r (b :: l) && (r b a && true)) = (r a b && nbs r (b :: l))
    rw [hs b a, Bool.and_true, Bool.and_comm]
end
end LA
namespace DL
open PySem PySem.Spec PyProof.Rows L2

inductive DV where
  | non | bl (b : Bool) | int (i : Int) | str (x : Str) | tup (xs : List DV) | lst (xs : List DV) | brw (xs : List DV) | ref (n : Nat) | con (v : V)
inductive DM where
  | I (kvs : List (Int × DV)) | T (kvs : List (List Int × DV))
abbrev KN := List (List (List Int) × Int)
structure DX where
  R : KN → Hp → Addr → HO → Prop
  mono : ∀ {k : KN} {H H' : Hp} {a : Addr} {u : HO}, Same H H' → R k H a u → R k H' a u
  no_lst : ∀ {k : KN} {H : Hp} {a : Addr} {u : HO} {xs : List V}, R k H a u → u ≠ .lst xs
inductive SV where
  | un | val (w : DV) | own (ws : List DV) | dct (m : DM) | fdt (kvs : List (List Int × DV)) | dx (D : DX) (kvs : KN) | fdx (D : DX) (kvs : KN)
inductive HC where
  | lst (ws : List DV) | obj (c : Str) (fs : List (Str × DV)) | own
abbrev DH := List HC
abbrev DSt := List SV
inductive Res (α : Type) where
  | ok (a : α) (h : DH) | exc (c : Str) (h : DH) | bad
def Res.bind {α β : Type} (r : Res α) (f : α → DH → Res β) : Res β := match r with
  | .ok a h => f a h
  | .exc c h => .exc c h
  | .bad => .bad
def Rz {α : Type} (ok : α → DH → Prop) (ex : Str → DH → Prop) : Res α → Prop
  | .ok a h => ok a h
  | .exc c h => ex c h
  | .bad => False
theorem Rz.imp {α : Type} {ok ok' : α → DH → Prop} {ex ex' : Str → DH → Prop} {r : Res α} (k : Rz ok ex r) (f : ∀ a h, ok a h → ok' a h) (g : ∀ c h, ex c h → ex' c h) : Rz ok' ex' r := by
  cases r with
  | ok a h => exact f a h k
  | exc c h => exact g c h k
  | bad => exact k
theorem Rz.bind {α β : Type} {ok : β → DH → Prop} {ex : Str → DH → Prop} {r : Res α} {f : α → DH → Res β} (k : Rz ok ex (r.bind f)) : Rz (fun a h => Rz ok ex (f a h)) ex r := by
  cases r with
  | ok a h => exact k
  | exc c h => exact k
  | bad => exact k
def ofO {α : Type} (o : Option α) (h : DH) : Res α := match o with
  | some w => .ok w h
  | none => .bad
theorem Rz.ofO {α : Type} {ok : α → DH → Prop} {ex : Str → DH → Prop} {o : Option α} {h : DH} (k : Rz ok ex (ofO o h)) : ∃ w, o = some w ∧ ok w h := by
  cases o with
  | some w => exact ⟨w, rfl, k⟩
  | none => exact k.elim
def chk {α : Type} (b : Bool) (r : Res α) : Res α := match b with
  | true => r
  | false => .bad
theorem Rz.chk {α : Type} {ok : α → DH → Prop} {ex : Str → DH → Prop} {b : Bool} {r : Res α} (k : Rz ok ex (chk b r)) : b = true ∧ Rz ok ex r := by
  cases b with
  | true => exact ⟨rfl, k⟩
  | false => exact k.elim
def asB : DV → Option Bool
  | .bl b => some b
  | _ => none
theorem asB_bl {w : DV} {b : Bool} (h : asB w = some b) : w = .bl b := by
  cases w <;> first | (cases h; rfl) | cases h
def brB {α : Type} (w : DV) (r1 r2 : Res α) : Res α := match asB w with
  | some true => r1
  | some false => r2
  | none => .bad
theorem Rz.brB {α : Type} {ok : α → DH → Prop} {ex : Str → DH → Prop} {w : DV} {r1 r2 : Res α} (k : Rz ok ex (brB w r1 r2)) : (w = .bl true ∧ Rz ok ex r1) ∨ (w = .bl false ∧ Rz ok ex r2) := by
  unfold DL.brB at k
  cases e : asB w with
  | none => rw [e] at k; exact k.elim
  | some b =>
    rw [e] at k
    cases b with
    | true => exact .inl ⟨asB_bl e, k⟩
    | false => exact .inr ⟨asB_bl e, k⟩
abbrev DE := DSt → DH → Res DV
abbrev DA := DSt → DH → Res (List DV)
inductive Fl where
  | next (σ : DSt) | ret (w : DV) | brk (σ : DSt) | cont (σ : DSt)
abbrev DS := DSt → DH → Res Fl
abbrev Fn := List DV → DH → Res DV

mutual
inductive Rep (K : PySem.W.Frag) (Hb : Hp) (ρ : List Addr) : V → DV → Prop
  | non : Rep K Hb ρ .non .non
  | bl (b : Bool) : Rep K Hb ρ (.bl b) (.bl b)
  | int (i : Int) : Rep K Hb ρ (.int i) (.int i)
  | str (x : Str) : Rep K Hb ρ (.str x) (.str x)
  | tup {a : Addr} {xs : List V} {ws : List DV} : Hb a = some (.tup xs) → Reps K Hb ρ xs ws → Rep K Hb ρ (.ref a) (.tup ws)
  | lst {a : Addr} {xs : List V} {ws : List DV} : Hb a = some (.lst xs) → Reps K Hb ρ xs ws → Rep K Hb ρ (.ref a) (.lst ws)
  | ref {n : Nat} {a : Addr} : ρ[n]? = some a → Rep K Hb ρ (.ref a) (.ref n)
  | con (v : V) : Rep K Hb ρ v (.con v)
inductive Reps (K : PySem.W.Frag) (Hb : Hp) (ρ : List Addr) : List V → List DV → Prop
  | nil : Reps K Hb ρ [] []
  | cons {v : V} {vs : List V} {w : DV} {ws : List DV} : Rep K Hb ρ v w → Reps K Hb ρ vs ws → Reps K Hb ρ (v :: vs) (w :: ws)
end
inductive RepT (K : PySem.W.Frag) (Hb : Hp) (ρ : List Addr) (Fr : Hp) : V → DV → Prop
  | per {v : V} {w : DV} : Rep K Hb ρ v w → RepT K Hb ρ Fr v w
  | brw {a : Addr} {xs : List V} {ws : List DV} : SqL K Fr a xs → Reps K Hb ρ xs ws → RepT K Hb ρ Fr (.ref a) (.brw ws)
inductive RepTs (K : PySem.W.Frag) (Hb : Hp) (ρ : List Addr) (Fr : Hp) : List V → List DV → Prop
  | nil : RepTs K Hb ρ Fr [] []
  | cons {v : V} {vs : List V} {w : DV} {ws : List DV} : RepT K Hb ρ Fr v w → RepTs K Hb ρ Fr vs ws → RepTs K Hb ρ Fr (v :: vs) (w :: ws)

theorem pre_get {ρ ρ' : List Addr} (h : ρ <+: ρ') {n : Nat} {a : Addr} (e : ρ[n]? = some a) : ρ'[n]? = some a := by
  obtain ⟨t, rfl⟩ := h
  rw [List.getElem?_append_left (List.getElem?_eq_some_iff.mp e).1]
  exact e
theorem rd_same {H H' : Hp} (s : Same H H') {a : Addr} {u : HO} (h : Rd H a u) : Rd H' a u := by
  rcases h with h | ⟨o, h⟩
  · exact .inl (s _ _ h)
  · exact .inr ⟨o, s _ _ h⟩
theorem sql_same {K : PySem.W.Frag} {H H' : Hp} (s : Same H H') {a : Addr} {xs : List V} (h : SqL K H a xs) : SqL K H' a xs := by
  rcases h with h | h
  · exact .inl (rd_same s h)
  · exact .inr h
theorem sqt_same {K : PySem.W.Frag} {H H' : Hp} (s : Same H H') {a : Addr} {xs : List V} (h : SqT K H a xs) : SqT K H' a xs := by
  rcases h with h | h
  · exact .inl (rd_same s h)
  · exact .inr h
section
variable {K : PySem.W.Frag} {Hb Hb' : Hp} {ρ ρ' : List Addr}
mutual
theorem Rep.mono (s : Same Hb Hb') (p : ρ <+: ρ') : ∀ {v : V} {w : DV}, Rep K Hb ρ v w → Rep K Hb' ρ' v w
  | _, _, .non => .non
  | _, _, .bl b => .bl b
  | _, _, .int i => .int i
  | _, _, .str x => .str x
  | _, _, .tup h r => .tup (s _ _ h) (Reps.mono s p r)
  | _, _, .lst h r => .lst (s _ _ h) (Reps.mono s p r)
  | _, _, .ref h => .ref (pre_get p h)
  | _, _, .con v => .con v
theorem Reps.mono (s : Same Hb Hb') (p : ρ <+: ρ') : ∀ {vs : List V} {ws : List DV}, Reps K Hb ρ vs ws → Reps K Hb' ρ' vs ws
  | _, _, .nil => .nil
  | _, _, .cons h t => .cons (Rep.mono s p h) (Reps.mono s p t)
end
theorem RepT.mono {Fr Fr' : Hp} (s : Same Hb Hb') (p : ρ <+: ρ') (f : Same Fr Fr') {v : V} {w : DV} : RepT K Hb ρ Fr v w → RepT K Hb' ρ' Fr' v w
  | .per h => .per (h.mono s p)
  | .brw h r => .brw (sql_same f h) (r.mono s p)
theorem RepTs.mono {Fr Fr' : Hp} (s : Same Hb Hb') (p : ρ <+: ρ') (f : Same Fr Fr') : ∀ {vs : List V} {ws : List DV}, RepTs K Hb ρ Fr vs ws → RepTs K Hb' ρ' Fr' vs ws
  | _, _, .nil => .nil
  | _, _, .cons h t => .cons (h.mono s p f) (RepTs.mono s p f t)
theorem Reps.length : ∀ {vs : List V} {ws : List DV}, Reps K Hb ρ vs ws → vs.length = ws.length
  | _, _, .nil => rfl
  | _, _, .cons _ t => congrArg (· + 1) t.length
theorem Reps.get : ∀ {vs : List V} {ws : List DV} {i : Nat} {w : DV}, Reps K Hb ρ vs ws → ws[i]? = some w → ∃ v, vs[i]? = some v ∧ Rep K Hb ρ v w
  | _, _, _, _, .nil, e => by simp at e
  | _, _, 0, _, .cons h _, e => by simp at e; subst e; exact ⟨_, rfl, h⟩
  | _, _, i + 1, w, .cons _ t, e => by
    obtain ⟨v, h1, h2⟩ := Reps.get (i := i) (w := w) t (by simpa using e)
    exact ⟨v, by simpa using h1, h2⟩
theorem Reps.append : ∀ {vs us : List V} {ws zs : List DV}, Reps K Hb ρ vs ws → Reps K Hb ρ us zs → Reps K Hb ρ (vs ++ us) (ws ++ zs)
  | _, _, _, _, .nil, r => r
  | _, _, _, _, .cons h t, r => .cons h (Reps.append t r)
theorem Reps.take : ∀ {vs : List V} {ws : List DV} (n : Nat), Reps K Hb ρ vs ws → Reps K Hb ρ (vs.take n) (ws.take n)
  | _, _, 0, _ => .nil
  | _, _, _ + 1, .nil => .nil
  | _, _, n + 1, .cons h t => .cons h (Reps.take n t)
theorem Reps.drop : ∀ {vs : List V} {ws : List DV} (n : Nat), Reps K Hb ρ vs ws → Reps K Hb ρ (vs.drop n) (ws.drop n)
  | _, _, 0, r => r
  | _, _, _ + 1, .nil => .nil
  | _, _, n + 1, .cons _ t => Reps.drop n t
theorem Reps.one {v : V} {w : DV} (h : Rep K Hb ρ v w) : Reps K Hb ρ [v] [w] := .cons h .nil
theorem Reps.rep {v : V} {w : DV} (h : Rep K Hb ρ v w) : ∀ n : Nat, Reps K Hb ρ (List.replicate n v) (List.replicate n w)
  | 0 => .nil
  | n + 1 => .cons h (Reps.rep h n)
theorem Reps.flat {vs : List V} {ws : List DV} (h : Reps K Hb ρ vs ws) : ∀ n : Nat, Reps K Hb ρ (List.replicate n vs).flatten (List.replicate n ws).flatten
  | 0 => .nil
  | n + 1 => Reps.append h (Reps.flat h n)
end
def held : DV → Bool
  | .brw _ => false
  | _ => true
def heldAll (ws : List DV) : Bool := ws.all held
theorem RepT.held {K : PySem.W.Frag} {Hb : Hp} {ρ : List Addr} {Fr : Hp} {v : V} {w : DV} (r : RepT K Hb ρ Fr v w) (h : held w = true) : Rep K Hb ρ v w := by
  cases r with
  | per r => exact r
  | brw _ _ => cases h
theorem RepTs.held {K : PySem.W.Frag} {Hb : Hp} {ρ : List Addr} {Fr : Hp} : ∀ {vs : List V} {ws : List DV}, RepTs K Hb ρ Fr vs ws → heldAll ws = true → Reps K Hb ρ vs ws
  | _, _, .nil, _ => .nil
  | _, _, .cons r t, h => by
    unfold heldAll at h
    rw [List.all_cons, Bool.and_eq_true] at h
    exact .cons (r.held h.1) (RepTs.held t h.2)

inductive KvR (K : PySem.W.Frag) (Hb : Hp) (ρ : List Addr) {κ κ' : Type} (f : κ' → κ) : List (κ × V) → List (κ' × DV) → Prop
  | nil : KvR K Hb ρ f [] []
  | cons {k : κ'} {v : V} {w : DV} {l : List (κ × V)} {m : List (κ' × DV)} : Rep K Hb ρ v w → KvR K Hb ρ f l m → KvR K Hb ρ f ((f k, v) :: l) ((k, w) :: m)
theorem KvR.mono {K : PySem.W.Frag} {Hb Hb' : Hp} {ρ ρ' : List Addr} (s : Same Hb Hb') (p : ρ <+: ρ') {κ κ' : Type} {f : κ' → κ} : ∀ {l : List (κ × V)} {m : List (κ' × DV)}, KvR K Hb ρ f l m → KvR K Hb' ρ' f l m
  | _, _, .nil => .nil
  | _, _, .cons h t => .cons (h.mono s p) (KvR.mono s p t)
def CellR (K : PySem.W.Frag) (Hb : Hp) (ρ : List Addr) (H : Hp) (a : Addr) : HC → Prop
  | .lst ws => ∃ xs, H a = some (.lst xs) ∧ Reps K Hb ρ xs ws
  | .obj c fs => ∃ C dx gs, PySem.W.nsIn K mainGlobals c = some (some (.ref C)) ∧ H a = some (.ins C dx gs) ∧ KvR K Hb ρ (id : Str → Str) gs fs
  | .own => ∃ x, H a = some (.own x)
theorem CellR.move {K : PySem.W.Frag} {Hb Hb' : Hp} {ρ ρ' : List Addr} {H H' : Hp} {a : Addr} {c : HC} (x : CellR K Hb ρ H a c) (s : Same Hb Hb') (p : ρ <+: ρ') (e : ∀ o, H a = some o → H' a = some o) : CellR K Hb' ρ' H' a c := by
  cases c with
  | lst ws => obtain ⟨xs, q, r⟩ := x; exact ⟨xs, e _ q, r.mono s p⟩
  | obj c fs => obtain ⟨C, dx, gs, n, h, r⟩ := x; exact ⟨C, dx, gs, n, e _ h, r.mono s p⟩
  | own => obtain ⟨y, h⟩ := x; exact ⟨y, e _ h⟩
theorem CellR.mono {K : PySem.W.Frag} {Hb Hb' : Hp} {ρ ρ' : List Addr} {H : Hp} {a : Addr} {c : HC} (x : CellR K Hb ρ H a c) (s : Same Hb Hb') (p : ρ <+: ρ') : CellR K Hb' ρ' H a c := x.move s p fun _ h => h
theorem CellR.some {K : PySem.W.Frag} {Hb : Hp} {ρ : List Addr} {H : Hp} {a : Addr} {c : HC} (x : CellR K Hb ρ H a c) : ∃ o, H a = Option.some o ∧ ∀ xs, o ≠ .tup xs := by
  cases c with
  | lst ws => obtain ⟨xs, q, r⟩ := x; exact ⟨_, q, fun _ z => nomatch z⟩
  | obj c fs => obtain ⟨C, dx, gs, n, h, r⟩ := x; exact ⟨_, h, fun _ z => nomatch z⟩
  | own => obtain ⟨y, h⟩ := x; exact ⟨_, h, fun _ z => nomatch z⟩
structure Rel (K : PySem.W.Frag) (Hb : Hp) (ρ : List Addr) (Fr : Hp) (h : DH) (H : Hp) : Prop where
  sub : Same Hb H
  fr : Same Fr H
  ap : ∀ a o, Fr a = some o → Hb a = none
  len : ρ.length = h.length
  cell : ∀ (n : Nat) (a : Addr) (c : HC), ρ[n]? = some a → h[n]? = some c → CellR K Hb ρ H a c
  out : ∀ (n : Nat) (a : Addr), ρ[n]? = some a → Hb a = none ∧ Fr a = none
  inj : ∀ (n m : Nat) (a : Addr), ρ[n]? = some a → ρ[m]? = some a → n = m
  ft : ∀ a o, Fr a = some o → ∀ xs, o ≠ .tup xs
def kI (k : Int) : Key := Sum.inl k
def kT (k : List Int) : List Key := k.map kI
inductive DctR (K : PySem.W.Frag) (Hb : Hp) (ρ : List Addr) : HO → DM → Prop
  | I {l : List (Key × V)} {kvs : List (Int × DV)} : KvR K Hb ρ kI l kvs → DctR K Hb ρ (.dK l) (.I kvs)
  | T {l : List (List Key × V)} {kvs : List (List Int × DV)} : KvR K Hb ρ kT l kvs → DctR K Hb ρ (.dT l) (.T kvs)
theorem DctR.mono {K : PySem.W.Frag} {Hb Hb' : Hp} {ρ ρ' : List Addr} (s : Same Hb Hb') (p : ρ <+: ρ') {o : HO} {m : DM} (h : DctR K Hb ρ o m) : DctR K Hb' ρ' o m := by
  cases h with
  | I h => exact .I (h.mono s p)
  | T h => exact .T (h.mono s p)
theorem DctR.no_lst {K : PySem.W.Frag} {Hb : Hp} {ρ : List Addr} {o : HO} {xs : List V} {m : DM} (h : DctR K Hb ρ o m) : o ≠ .lst xs := fun e => by
  cases h with
  | I h => exact nomatch e
  | T h => exact nomatch e
def SlotR (K : PySem.W.Frag) (Hb : Hp) (ρ : List Addr) (F0 Fr : Hp) (o : Option (Option V)) : SV → Prop
  | .un => True
  | .val w => ∃ v, o = some (some v) ∧ RepT K Hb ρ F0 v w
  | .own ws => ∃ a xs, o = some (some (.ref a)) ∧ Fr a = some (.lst xs) ∧ F0 a = none ∧ Reps K Hb ρ xs ws
  | .dct m => ∃ a u, o = some (some (.ref a)) ∧ Fr a = some u ∧ F0 a = none ∧ DctR K Hb ρ u m
  | .fdt kvs => ∃ a od l, o = some (some (.ref a)) ∧ Hb a = some (.frz od (.dT l)) ∧ KvR K Hb ρ kT l kvs
  | .dx D kvs => ∃ a u, o = some (some (.ref a)) ∧ Fr a = some u ∧ F0 a = none ∧ D.R kvs Hb a u
  | .fdx D kvs => ∃ a od u, o = some (some (.ref a)) ∧ Hb a = some (.frz od u) ∧ D.R kvs Hb a u
structure Slots (K : PySem.W.Frag) (Hb : Hp) (ρ : List Addr) (F0 Fr : Hp) (σ : DSt) (s : L2.St) : Prop where
  fr : Same F0 Fr
  at_ : ∀ (i : Nat) (q : SV), σ[i]? = some q → SlotR K Hb ρ F0 Fr s[i]? q
  len : σ.length = s.length
  sep : ∀ (i j : Nat) (a : Addr) (ws zs : List DV), σ[i]? = some (.own ws) → σ[j]? = some (.own zs) → s[i]? = some (some (.ref a)) → s[j]? = some (some (.ref a)) → i = j
theorem SlotR.mono {K : PySem.W.Frag} {Hb Hb' : Hp} {ρ ρ' : List Addr} {F0 Fr : Hp} (s : Same Hb Hb') (p : ρ <+: ρ') {o : Option (Option V)} : ∀ {q : SV}, SlotR K Hb ρ F0 Fr o q → SlotR K Hb' ρ' F0 Fr o q
  | .un, _ => trivial
  | .val w, ⟨v, e, r⟩ => ⟨v, e, r.mono s p (Same.refl _)⟩
  | .own ws, ⟨a, xs, e, f, n, r⟩ => ⟨a, xs, e, f, n, r.mono s p⟩
  | .dct m, ⟨a, u, e, f, n, r⟩ => ⟨a, u, e, f, n, r.mono s p⟩
  | .fdt kvs, ⟨a, od, l, e, f, r⟩ => ⟨a, od, l, e, s _ _ f, r.mono s p⟩
  | .dx D kvs, ⟨a, u, e, f, n, r⟩ => ⟨a, u, e, f, n, D.mono s r⟩
  | .fdx D kvs, ⟨a, od, u, e, f, r⟩ => ⟨a, od, u, e, s _ _ f, D.mono s r⟩
theorem Slots.mono {K : PySem.W.Frag} {Hb Hb' : Hp} {ρ ρ' : List Addr} {F0 Fr : Hp} {σ : DSt} {t : L2.St} (s : Same Hb Hb') (p : ρ <+: ρ') (x : Slots K Hb ρ F0 Fr σ t) : Slots K Hb' ρ' F0 Fr σ t :=
  ⟨x.fr, fun i q e => (x.at_ i q e).mono s p, x.len, x.sep⟩

def Pst (K : PySem.W.Frag) (Hb : Hp) (ρ : List Addr) (Fr : Hp) (Q : VK) (w : DV) (h' : DH) : Prop :=
  ∀ (Hb' : Hp) (ρ' : List Addr) (H' : Hp) (x : V), Same Hb Hb' → ρ <+: ρ' → Rel K Hb' ρ' Fr h' H' → RepT K Hb' ρ' Fr x w → Q x H'
def Pss (K : PySem.W.Frag) (Hb : Hp) (ρ : List Addr) (Fr : Hp) (Q : List V → Hp → Prop) (ws : List DV) (h' : DH) : Prop :=
  ∀ (Hb' : Hp) (ρ' : List Addr) (H' : Hp) (xs : List V), Same Hb Hb' → ρ <+: ρ' → Rel K Hb' ρ' Fr h' H' → RepTs K Hb' ρ' Fr xs ws → Q xs H'
def Pbl (K : PySem.W.Frag) (Hb : Hp) (ρ : List Addr) (Fr : Hp) (Q : Bool → Hp → Prop) (w : DV) (h' : DH) : Prop :=
  ∃ b, w = .bl b ∧ ∀ (Hb' : Hp) (ρ' : List Addr) (H' : Hp), Same Hb Hb' → ρ <+: ρ' → Rel K Hb' ρ' Fr h' H' → Q b H'
def Pex (K : PySem.W.Frag) (mg : Str → Option Value) (Hb : Hp) (ρ : List Addr) (Fr : Hp) (E : XK) (c : Str) (h' : DH) : Prop :=
  ∃ u, mg c = some u ∧ ∀ (Hb' : Hp) (ρ' : List Addr) (H' : Hp), Same Hb Hb' → ρ <+: ρ' → Rel K Hb' ρ' Fr h' H' → E u none H'
def tD (K : PySem.W.Frag) (mg : Str → Option Value) (E : L2.St → XK) (d : DE) : TE := fun s H Q => ∃ (Hb : Hp) (ρ : List Addr) (F0 Fr : Hp) (σ : DSt) (h : DH), Rel K Hb ρ Fr h H ∧ Slots K Hb ρ F0 Fr σ s ∧
  Rz (Pst K Hb ρ Fr Q) (Pex K mg Hb ρ Fr (E s)) (d σ h)
def tDs (K : PySem.W.Frag) (mg : Str → Option Value) (E : L2.St → XK) (d : DA) : TA := fun s H Q => ∃ (Hb : Hp) (ρ : List Addr) (F0 Fr : Hp) (σ : DSt) (h : DH), Rel K Hb ρ Fr h H ∧ Slots K Hb ρ F0 Fr σ s ∧
  Rz (Pss K Hb ρ Fr Q) (Pex K mg Hb ρ Fr (E s)) (d σ h)
def tT (K : PySem.W.Frag) (mg : Str → Option Value) (E : L2.St → XK) (d : DE) : TT := fun s H Q => ∃ (Hb : Hp) (ρ : List Addr) (F0 Fr : Hp) (σ : DSt) (h : DH), Rel K Hb ρ Fr h H ∧ Slots K Hb ρ F0 Fr σ s ∧
  Rz (Pbl K Hb ρ Fr Q) (Pex K mg Hb ρ Fr (E s)) (d σ h)
abbrev SE (X : Cx) (E : L2.St → XK) (e : Expr) (d : DE) : Prop := PE X e (tD X.K X.mg E d)
abbrev SA (X : Cx) (E : L2.St → XK) (es : List Expr) (d : DA) : Prop := PA X es (tDs X.K X.mg E d)
abbrev ST (X : Cx) (E : L2.St → XK) (e : Expr) (d : DE) : Prop := PT X e (tT X.K X.mg E d)
abbrev SW (X : Cx) (E : L2.St → XK) (e : Expr) (d : DE) : Prop := PW X e (tT X.K X.mg E d)
theorem _root_.L2.PE.weak {X : Cx} {e : Expr} {t t' : TE} (h : PE X e t) (w : ∀ s H Q, t' s H Q → t s H Q) : PE X e t' := ⟨fun pins s σ H Q I q => h.run pins s σ H Q I (w σ H Q q)⟩
theorem _root_.L2.PA.weak {X : Cx} {es : List Expr} {t t' : TA} (h : PA X es t) (w : ∀ s H Q, t' s H Q → t s H Q) : PA X es t' := ⟨fun pos pins s σ H Q I q => h.run pos pins s σ H Q I (w σ H Q q)⟩
theorem _root_.L2.PS.weak {X : Cx} {st : Stmt} {t t' : TS} (h : PS X st t) (w : ∀ D s H, t' D s H → t D s H) : PS X st t' := ⟨fun pins s σ H D I q => h.run pins s σ H D I (w D σ H q)⟩
theorem _root_.L2.PSs.weak {X : Cx} {st : List Stmt} {t t' : TS} (h : PSs X st t) (w : ∀ D s H, t' D s H → t D s H) : PSs X st t' := ⟨fun pins s σ H D I q => h.run pins s σ H D I (w D σ H q)⟩
theorem _root_.L2.PT.weak {X : Cx} {e : Expr} {t t' : TT} (h : PT X e t) (w : ∀ s H Q, t' s H Q → t s H Q) : PT X e t' := ⟨fun pins s σ H Q I q => h.run pins s σ H Q I (w σ H Q q)⟩
theorem _root_.L2.PW.weak {X : Cx} {e : Expr} {t t' : TT} (h : PW X e t) (w : ∀ s H Q, t' s H Q → t s H Q) : PW X e t' := ⟨fun wh pins s σ H Q I q => h.run wh pins s σ H Q I (w σ H Q q)⟩
theorem _root_.L2.PI.weak {X : Cx} {tg e : Expr} {t t' : TI} (h : PI X tg e t) (w : ∀ s H R, t' s H R → t s H R) : PI X tg e t' := ⟨fun pins s σ H R I q => h.run pins s σ H R I (w σ H R q)⟩
section
variable {K : PySem.W.Frag} {mg : Str → Option Value} {Hb Hb1 : Hp} {ρ ρ1 : List Addr} {Fr : Hp}
theorem Pex.back {E : XK} (a : Same Hb Hb1) (b : ρ <+: ρ1) (c : Str) (h : DH) (x : Pex K mg Hb ρ Fr E c h) : Pex K mg Hb1 ρ1 Fr E c h := by
  obtain ⟨u, e, x⟩ := x
  exact ⟨u, e, fun Hb' ρ' H' a' b' r => x Hb' ρ' H' (a.trans a') (b.trans b') r⟩
theorem Pst.back {Q : VK} (a : Same Hb Hb1) (b : ρ <+: ρ1) (w : DV) (h : DH) (x : Pst K Hb ρ Fr Q w h) : Pst K Hb1 ρ1 Fr Q w h :=
  fun Hb' ρ' H' v a' b' r q => x Hb' ρ' H' v (a.trans a') (b.trans b') r q
theorem Pss.back {Q : List V → Hp → Prop} (a : Same Hb Hb1) (b : ρ <+: ρ1) (w : List DV) (h : DH) (x : Pss K Hb ρ Fr Q w h) : Pss K Hb1 ρ1 Fr Q w h :=
  fun Hb' ρ' H' v a' b' r q => x Hb' ρ' H' v (a.trans a') (b.trans b') r q
theorem Pbl.back {Q : Bool → Hp → Prop} (a : Same Hb Hb1) (b : ρ <+: ρ1) (w : DV) (h : DH) (x : Pbl K Hb ρ Fr Q w h) : Pbl K Hb1 ρ1 Fr Q w h := by
  obtain ⟨k, e, x⟩ := x
  exact ⟨k, e, fun Hb' ρ' H' a' b' r => x Hb' ρ' H' (a.trans a') (b.trans b') r⟩
theorem Pst.bl {Q : VK} {b : Bool} {h : DH} (q : ∀ (Hb' : Hp) (ρ' : List Addr) (H' : Hp), Same Hb Hb' → ρ <+: ρ' → Rel K Hb' ρ' Fr h H' → Q (.bl b) H') : Pst K Hb ρ Fr Q (.bl b) h := fun Hb' ρ' H' v s p R r => by
  cases r with
  | per r =>
    cases r
    exact q Hb' ρ' H' s p R
end

def dC (w : DV) : DE := fun _ h => .ok w h
def getS (σ : DSt) (i : Nat) : Option DV := match σ[i]? with
  | some (.val w) => some w
  | some (.own ws) => some (.brw ws)
  | _ => none
def dVar (i : Nat) : DE := fun σ h => ofO (getS σ i) h
def dOp (g : DV → DV → Option DV) (da db : DE) : DE := fun σ h => (da σ h).bind fun a h1 => (db σ h1).bind fun b h2 => ofO (g a b) h2
def dUn (g : DV → Option DV) (da : DE) : DE := fun σ h => (da σ h).bind fun a h1 => ofO (g a) h1
def daNil : DA := fun _ h => .ok [] h
def daCons (d : DE) (r : DA) : DA := fun σ h => (d σ h).bind fun w h1 => (r σ h1).bind fun ws h2 => .ok (w :: ws) h2
def dFn (g : List DV → DH → Option DV) (da : DA) : DE := fun σ h => (da σ h).bind fun ws h1 => ofO (g ws h1) h1
def dCall (n : Nat) (F : Fn) (da : DA) : DE := fun σ h => (da σ h).bind fun ws h1 => chk (ws.length == n) (F ws h1)
def dAnd (da db : DE) : DE := fun σ h => (da σ h).bind fun a h1 => brB a (db σ h1) (.ok (.bl false) h1)
def dOr (da db : DE) : DE := fun σ h => (da σ h).bind fun a h1 => brB a (.ok (.bl true) h1) (db σ h1)
def dNot (da : DE) : DE := fun σ h => (da σ h).bind fun a h1 => brB a (.ok (.bl false) h1) (.ok (.bl true) h1)
def dIf (dt da db : DE) : DE := fun σ h => (dt σ h).bind fun a h1 => brB a (da σ h1) (db σ h1)

section
variable {X : Cx} {E : L2.St → XK} {e a b c : Expr} {es : List Expr} {pos : Pos} {d da db dt : DE} {dr : DA} {g : DV → DV → Option DV}
theorem se_c {w : DV} {v : V} (h : PE X e (tC v)) (r : ∀ Hb ρ, Rep X.K Hb ρ v w) : SE X E e (dC w) := h.weak fun s H Q ⟨Hb, ρ, F0, Fr, σ, h, R, x, k⟩ =>
  k Hb ρ H v (Same.refl _) (List.prefix_refl _) R (.per (r Hb ρ))
theorem se_int {i : Int} {j : Nat} : SE X E (.Constant (.int i) j pos) (dC (.int i)) := se_c pe_int fun _ _ => .int i
theorem se_bl {i : Bool} {j : Nat} : SE X E (.Constant (.bool i) j pos) (dC (.bl i)) := se_c pe_bl fun _ _ => .bl i
theorem se_non {j : Nat} : SE X E (.Constant .none j pos) (dC .non) := se_c pe_non fun _ _ => .non
theorem se_str {x : Str} {j : Nat} : SE X E (.Constant (.str x) j pos) (dC (.str x)) := se_c pe_str fun _ _ => .str x
theorem slot_get {K : PySem.W.Frag} {Hb : Hp} {ρ : List Addr} {F0 Fr : Hp} {σ : DSt} {s : L2.St} (x : Slots K Hb ρ F0 Fr σ s) {i : Nat} {w : DV} (e : getS σ i = some w) : ∃ v, s[i]? = some (some v) ∧ RepT K Hb ρ Fr v w := by
  unfold getS at e
  cases eq : σ[i]? with
  | none => rw [eq] at e; cases e
  | some q =>
    rw [eq] at e
    have y := x.at_ i q eq
    cases q with
    | un => cases e
    | val w' =>
      cases e
      obtain ⟨v, ev, r⟩ := y
      exact ⟨v, ev, r.mono (Same.refl _) (List.prefix_refl _) x.fr⟩
    | own ws =>
      cases e
      obtain ⟨p, xs, ev, f, _, r⟩ := y
      exact ⟨.ref p, ev, .brw (SqL.of f) r⟩
    | dct m => cases e
    | fdt m => cases e
    | dx D m => cases e
    | fdx D m => cases e
theorem se_var {i : Nat} {x : Str} (h : PE X (.Name x pos) (tVar i)) : SE X E (.Name x pos) (dVar i) := h.weak fun s H Q ⟨Hb, ρ, F0, Fr, σ, h, R, x, k⟩ => by
  obtain ⟨w, e, k⟩ := Rz.ofO k
  obtain ⟨v, ev, r⟩ := slot_get x e
  exact ⟨v, ev, k Hb ρ H v (Same.refl _) (List.prefix_refl _) R r⟩
def OpD (X : Cx) (r : R2) (g : DV → DV → Option DV) : Prop := ∀ (Hb : Hp) (ρ : List Addr) (Fr : Hp) (h : DH) (H : Hp) (x y : V) (a b w : DV) (Q : VK), Rel X.K Hb ρ Fr h H → RepT X.K Hb ρ Fr x a → RepT X.K Hb ρ Fr y b → g a b = some w → Pst X.K Hb ρ Fr Q w h → r x y H Q
theorem dop_run {r : R2} (hd : OpD X r g) {s : L2.St} {H : Hp} {Q : VK} (h : tD X.K X.mg E (dOp g da db) s H Q) : tOp r (tD X.K X.mg E da) (tD X.K X.mg E db) s H Q := by
  obtain ⟨Hb, ρ, F0, Fr, σ, h, R, x, k⟩ := h
  refine ⟨Hb, ρ, F0, Fr, σ, h, R, x, (Rz.bind k).imp (fun wa h1 k => ?_) fun _ _ z => z⟩
  intro Hb1 ρ1 H1 v1 s1 p1 R1 r1
  refine ⟨Hb1, ρ1, F0, Fr, σ, h1, R1, x.mono s1 p1, (Rz.bind k).imp (fun wb h2 k => ?_) (Pex.back s1 p1)⟩
  obtain ⟨w, eg, k⟩ := Rz.ofO k
  intro Hb2 ρ2 H2 v2 s2 p2 R2 r2
  exact hd Hb2 ρ2 Fr h2 H2 v1 v2 wa wb w Q R2 (r1.mono s2 p2 (Same.refl _)) r2 eg (Pst.back (s1.trans s2) (p1.trans p2) _ _ k)
theorem se_op {op : Operator} {r : R2} (ho : OpR X (binaryOp op) r) (hd : OpD X r g) (ha : SE X E a da) (hb : SE X E b db) : SE X E (.BinOp a op b pos) (dOp g da db) := (pe_op ho ha hb).weak fun s H Q h => dop_run hd h
theorem se_cmp {op : CmpOp} {r : R2} (ho : OpR X (compareOp op) r) (hd : OpD X r g) (ha : SE X E a da) (hb : SE X E b db) (hm : behindInMarks op b = false) : SE X E (.Compare a [op] [b] pos) (dOp g da db) := (pe_cmpR ho ha hb hm).weak fun s H Q h => dop_run hd h
theorem se_ix {r : R2} (hr : IxR X r) (hd : OpD X r g) (ha : SE X E a da) (hb : SE X E b db) (hs : PlainIx b) : SE X E (.Subscript a b pos) (dOp g da db) := (pe_ix hr ha hb hs).weak fun s H Q h => dop_run hd h
def UnD (X : Cx) (r : V → Hp → VK → Prop) (g : DV → Option DV) : Prop := ∀ (Hb : Hp) (ρ : List Addr) (Fr : Hp) (h : DH) (H : Hp) (x : V) (a w : DV) (Q : VK), Rel X.K Hb ρ Fr h H → RepT X.K Hb ρ Fr x a → g a = some w → Pst X.K Hb ρ Fr Q w h → r x H Q
theorem se_un {op : UnaryOp} {r : V → Hp → VK → Prop} {g : DV → Option DV} (ho : UnR X (unaryOp op) r) (hd : UnD X r g) (ha : SE X E a da) : SE X E (.UnaryOp op a pos) (dUn g da) := (pe_un ho ha).weak fun s H Q ⟨Hb, ρ, F0, Fr, σ, h, R, x, k⟩ => by
  refine ⟨Hb, ρ, F0, Fr, σ, h, R, x, (Rz.bind k).imp (fun wa h1 k => ?_) fun _ _ z => z⟩
  obtain ⟨w, eg, k⟩ := Rz.ofO k
  intro Hb1 ρ1 H1 v1 s1 p1 R1 r1
  exact hd Hb1 ρ1 Fr h1 H1 v1 wa w Q R1 r1 eg (Pst.back s1 p1 _ _ k)
theorem sa_nil : SA X E [] daNil := pa_nil.weak fun s H Q ⟨Hb, ρ, F0, Fr, σ, h, R, x, k⟩ => k Hb ρ H [] (Same.refl _) (List.prefix_refl _) R .nil
theorem sa_cons (ha : SE X E e d) (hr : SA X E es dr) (hs : starEach (e :: es) X.env = (false, eval e X.env) :: starEach es X.env := by rfl) : SA X E (e :: es) (daCons d dr) :=
  (pa_cons ha hr hs).weak fun s H Q ⟨Hb, ρ, F0, Fr, σ, h, R, x, k⟩ => by
  refine ⟨Hb, ρ, F0, Fr, σ, h, R, x, (Rz.bind k).imp (fun wa h1 k => ?_) fun _ _ z => z⟩
  intro Hb1 ρ1 H1 v1 s1 p1 R1 r1
  refine ⟨Hb1, ρ1, F0, Fr, σ, h1, R1, x.mono s1 p1, (Rz.bind k).imp (fun ws h2 k => ?_) (Pex.back s1 p1)⟩
  intro Hb2 ρ2 H2 vs2 s2 p2 R2 r2
  exact k Hb2 ρ2 H2 _ (s1.trans s2) (p1.trans p2) R2 (.cons (r1.mono s2 p2 (Same.refl _)) r2)
def CallD (X : Cx) (r : List V → Hp → VK → Prop) (g : List DV → DH → Option DV) : Prop := ∀ (Hb : Hp) (ρ : List Addr) (Fr : Hp) (h : DH) (H : Hp) (xs : List V) (ws : List DV) (w : DV) (Q : VK), Rel X.K Hb ρ Fr h H → RepTs X.K Hb ρ Fr xs ws → g ws h = some w → Pst X.K Hb ρ Fr Q w h → r xs H Q
theorem dfn_run {r : List V → Hp → VK → Prop} {g : List DV → DH → Option DV} (hd : CallD X r g) {s : L2.St} {H : Hp} {Q : VK} (h : tD X.K X.mg E (dFn g dr) s H Q) : tCB r (tDs X.K X.mg E dr) s H Q := by
  obtain ⟨Hb, ρ, F0, Fr, σ, h, R, x, k⟩ := h
  refine ⟨Hb, ρ, F0, Fr, σ, h, R, x, (Rz.bind k).imp (fun ws h1 k => ?_) fun _ _ z => z⟩
  obtain ⟨w, eg, k⟩ := Rz.ofO k
  intro Hb1 ρ1 H1 vs1 s1 p1 R1 r1
  exact hd Hb1 ρ1 Fr h1 H1 vs1 ws w Q R1 r1 eg (Pst.back s1 p1 _ _ k)
theorem se_callB {x : Str} {p : Pos} {id : String} {r : List V → Hp → VK → Prop} {g : List DV → DH → Option DV} (hc : CallR X (.builtin id) r) (hd : CallD X r g) (hg : Gl X x) (hm : X.mg x = none) (hv : bootBuiltins x = some (.builtin id)) (ha : SA X E (e :: es) dr)
    (hn : x ≠ "__name__" := by decide) (hdb : (x == ("__debug__" : Str)) = false := by decide) (hs : starEach (e :: es) X.env = (false, eval e X.env) :: starEach es X.env := by rfl) (hpl : (backTo pos (starEach es X.env)).any (·.1) = false := by rfl) :
    SE X E (.Call (.Name x p) (e :: es) [] pos) (dFn g dr) := (pe_callB hc hg hm hv ha hn hdb hs hpl).weak fun s H Q h => dfn_run hd h
theorem se_callTy {x : Str} {p : Pos} {T : String} {r : List V → Hp → VK → Prop} {g : List DV → DH → Option DV} (hc : CallR X (.type T) r) (hd : CallD X r g) (hg : Gl X x) (hm : X.mg x = none) (hv : bootBuiltins x = some (.type T)) (ha : SA X E (e :: es) dr)
    (hn : x ≠ "__name__" := by decide) (hdb : (x == ("__debug__" : Str)) = false := by decide) (hs : starEach (e :: es) X.env = (false, eval e X.env) :: starEach es X.env := by rfl) (hpl : (backTo pos (starEach es X.env)).any (·.1) = false := by rfl) :
    SE X E (.Call (.Name x p) (e :: es) [] pos) (dFn g dr) := (pe_callTy hc hg hm hv ha hn hdb hs hpl).weak fun s H Q h => dfn_run hd h
def Prt (K : PySem.W.Frag) (Hb : Hp) (ρ : List Addr) (Fr : Hp) (Q : VK) (w : DV) (h' : DH) : Prop :=
  ∀ (Hb' : Hp) (ρ' : List Addr) (H' : Hp) (x : V), Same Hb Hb' → ρ <+: ρ' → Rel K Hb' ρ' Fr h' H' → Rep K Hb' ρ' x w → Q x H'
def spD (K : PySem.W.Frag) (mg : Str → Option Value) (n : Nat) (F : Fn) : Sp := fun vs H Q E => vs.length = n ∧ ∃ (Hb : Hp) (ρ : List Addr) (Fr : Hp) (h : DH) (ws : List DV), Rel K Hb ρ Fr h H ∧ RepTs K Hb ρ Fr vs ws ∧
  Rz (Prt K Hb ρ Fr Q) (Pex K mg Hb ρ Fr E) (F ws h)
theorem RepTs.length {K : PySem.W.Frag} {Hb : Hp} {ρ : List Addr} {Fr : Hp} : ∀ {vs : List V} {ws : List DV}, RepTs K Hb ρ Fr vs ws → vs.length = ws.length
  | _, _, .nil => rfl
  | _, _, .cons _ t => congrArg (· + 1) t.length
theorem dcall_run {n : Nat} {F : Fn} {s : L2.St} {H : Hp} {Q : VK} (h : tD X.K X.mg E (dCall n F dr) s H Q) : tCallS (spD X.K X.mg n F) E (tDs X.K X.mg E dr) s H Q := by
  obtain ⟨Hb, ρ, F0, Fr, σ, h, R, x, k⟩ := h
  refine ⟨Hb, ρ, F0, Fr, σ, h, R, x, (Rz.bind k).imp (fun ws h1 k => ?_) fun _ _ z => z⟩
  obtain ⟨hn, k⟩ := Rz.chk k
  intro Hb1 ρ1 H1 vs1 s1 p1 R1 r1
  exact ⟨r1.length.trans (by simpa using hn), Hb1, ρ1, Fr, h1, ws, R1, r1, k.imp (fun w h2 q Hb' ρ' H' v s2 p2 R2 r2 => q Hb' ρ' H' v (s1.trans s2) (p1.trans p2) R2 (.per r2)) (Pex.back s1 p1)⟩
theorem se_call {x : Str} {p : Pos} {k n : Nat} {f : Addr} {fd : FuncData} {ps : List Str} {F : Fn} (hx : ∀ σ, PassesAt (L2.CX X.prog X.w) X σ (E σ)) (hf : FnOk X.prog X.w X.K X.mg X.base (L2.CX X.prog X.w) k f fd ps (spD X.K X.mg n F)) (hr : Room k X.A) (hg : Gl X x) (hm : X.mg x = some (.ref f))
    (hk : PySem.W.keepIn X.K (.ref f) = true) (hb : L2.Binds X.K fd ps []) (ha : SA X E (e :: es) dr) (hdb : (x == ("__debug__" : Str)) = false := by decide)
    (hs : starEach (e :: es) X.env = (false, eval e X.env) :: starEach es X.env := by rfl) (hpl : (backTo pos (starEach es X.env)).any (·.1) = false := by rfl) :
    SE X E (.Call (.Name x p) (e :: es) [] pos) (dCall n F dr) := (pe_callS hf hr hg hm hk hb hx ha hdb hs hpl).weak fun s H Q h => dcall_run h

theorem tT_run {s : L2.St} {H : Hp} {Q : Bool → Hp → Prop} (h : tT X.K X.mg E d s H Q) : tD X.K X.mg E d s H fun x H' => ∃ k, x = .bl k ∧ Q k H' := by
  obtain ⟨Hb, ρ, F0, Fr, σ, h, R, x, k⟩ := h
  refine ⟨Hb, ρ, F0, Fr, σ, h, R, x, k.imp (fun w h1 k => ?_) fun _ _ z => z⟩
  obtain ⟨b, e, k⟩ := k
  subst e
  exact Pst.bl fun Hb' ρ' H' s1 p1 R1 => ⟨b, rfl, k Hb' ρ' H' s1 p1 R1⟩
theorem st_val (h : SE X E e d) (he : ∀ whole, isTrue e X.env whole = (do let v ← whole; standAt e.pos; holding [v] (truthy v)) := by intro _; rfl) : ST X E e d := (pt_val h he).weak fun s H Q q => tT_run q
theorem st_cmp {op : CmpOp} {r : R2} (ho : OpR X (compareOp op) r) (hd : OpD X r g) (ha : SE X E a da) (hb : SE X E b db) (hm : behindInMarks op b = false) : ST X E (.Compare a [op] [b] pos) (dOp g da db) := (pt_cmpR ho ha hb hm).weak fun s H Q h => dop_run hd (tT_run h)
theorem tT_const {s : L2.St} {H : Hp} {Q : Bool → Hp → Prop} {b : Bool} (h : tT X.K X.mg E (fun _ h1 => .ok (.bl b) h1) s H Q) : Q b H := by
  obtain ⟨Hb, ρ, F0, Fr, σ, h, R, x, b', e, k⟩ := h
  cases e
  exact k Hb ρ H (Same.refl _) (List.prefix_refl _) R
theorem tT_cut {s : L2.St} {H : Hp} {Q Q' : Bool → Hp → Prop} (h : tT X.K X.mg E (fun σ h => (dt σ h).bind fun a h1 => brB a (da σ h1) (db σ h1)) s H Q)
    (q1 : ∀ H', tT X.K X.mg E da s H' Q → Q' true H') (q2 : ∀ H', tT X.K X.mg E db s H' Q → Q' false H') : tT X.K X.mg E dt s H Q' := by
  obtain ⟨Hb, ρ, F0, Fr, σ, h, R, x, k⟩ := h
  refine ⟨Hb, ρ, F0, Fr, σ, h, R, x, (Rz.bind k).imp (fun w h1 k => ?_) fun _ _ z => z⟩
  rcases Rz.brB k with ⟨e, k⟩ | ⟨e, k⟩
  · exact ⟨true, e, fun Hb' ρ' H' s1 p1 R1 => q1 H' ⟨Hb', ρ', F0, Fr, σ, h1, R1, x.mono s1 p1, k.imp (Pbl.back s1 p1) (Pex.back s1 p1)⟩⟩
  · exact ⟨false, e, fun Hb' ρ' H' s1 p1 R1 => q2 H' ⟨Hb', ρ', F0, Fr, σ, h1, R1, x.mono s1 p1, k.imp (Pbl.back s1 p1) (Pex.back s1 p1)⟩⟩
theorem st_not (ha : ST X E a da) : ST X E (.UnaryOp .Not a pos) (dNot da) := (pt_not ha).weak fun s H Q h =>
  tT_cut (Q' := fun c H1 => Q (!c) H1) h (fun _ q => tT_const q) fun _ q => tT_const q
theorem sw_and1 (ha : ST X E a da) : SW X E (.BoolOp .And [a] pos) da := pw_and1 ha
theorem sw_or1 (ha : ST X E a da) : SW X E (.BoolOp .Or [a] pos) da := pw_or1 ha
theorem sw_and (ha : ST X E a da) (hb : SW X E (.BoolOp .And (b :: es) pos) db) : SW X E (.BoolOp .And (a :: b :: es) pos) (dAnd da db) := (pw_and ha hb).weak fun s H Q h =>
  tT_cut (Q' := fun c H1 => if c = true then tT X.K X.mg E db s H1 Q else Q false H1) h (fun _ q => iteT q) fun _ q => iteF (tT_const q)
theorem sw_or (ha : ST X E a da) (hb : SW X E (.BoolOp .Or (b :: es) pos) db) : SW X E (.BoolOp .Or (a :: b :: es) pos) (dOr da db) := (pw_or ha hb).weak fun s H Q h =>
  tT_cut (Q' := fun c H1 => if c = true then Q true H1 else tT X.K X.mg E db s H1 Q) h (fun _ q => iteT (tT_const q)) fun _ q => iteF q
theorem tD_cut {s : L2.St} {H : Hp} {Q Q' : VK} (h : tD X.K X.mg E (fun σ h => (dt σ h).bind fun a h1 => brB a (da σ h1) (db σ h1)) s H Q)
    (q1 : ∀ H', tD X.K X.mg E da s H' Q → Q' (.bl true) H') (q2 : ∀ H', tD X.K X.mg E db s H' Q → Q' (.bl false) H') : tD X.K X.mg E dt s H Q' := by
  obtain ⟨Hb, ρ, F0, Fr, σ, h, R, x, k⟩ := h
  refine ⟨Hb, ρ, F0, Fr, σ, h, R, x, (Rz.bind k).imp (fun w h1 k => ?_) fun _ _ z => z⟩
  rcases Rz.brB k with ⟨e, k⟩ | ⟨e, k⟩
  · subst e
    exact Pst.bl fun Hb' ρ' H' s1 p1 R1 => q1 H' ⟨Hb', ρ', F0, Fr, σ, h1, R1, x.mono s1 p1, k.imp (Pst.back s1 p1) (Pex.back s1 p1)⟩
  · subst e
    exact Pst.bl fun Hb' ρ' H' s1 p1 R1 => q2 H' ⟨Hb', ρ', F0, Fr, σ, h1, R1, x.mono s1 p1, k.imp (Pst.back s1 p1) (Pex.back s1 p1)⟩
theorem tD_const {s : L2.St} {H : Hp} {Q : VK} {b : Bool} (h : tD X.K X.mg E (fun _ h1 => .ok (.bl b) h1) s H Q) : Q (.bl b) H := by
  obtain ⟨Hb, ρ, F0, Fr, σ, h, R, x, k⟩ := h
  exact k Hb ρ H _ (Same.refl _) (List.prefix_refl _) R (.per (.bl b))
theorem se_one {op} (h : SE X E a da) : SE X E (.BoolOp op [a] pos) da := pe_one h
theorem se_and (ha : SE X E a da) (hb : SE X E (.BoolOp .And (b :: es) pos) db) : SE X E (.BoolOp .And (a :: b :: es) pos) (dAnd da db) := (pe_and ha hb).weak fun s H Q h =>
  tD_cut (Q' := fun x H1 => ∃ c, x = .bl c ∧ if c = true then tD X.K X.mg E db s H1 Q else Q (.bl false) H1) h (fun _ q => ⟨true, rfl, iteT q⟩) fun _ q => ⟨false, rfl, iteF (tD_const q)⟩
theorem se_or (ha : SE X E a da) (hb : SE X E (.BoolOp .Or (b :: es) pos) db) : SE X E (.BoolOp .Or (a :: b :: es) pos) (dOr da db) := (pe_or ha hb).weak fun s H Q h =>
  tD_cut (Q' := fun x H1 => ∃ c, x = .bl c ∧ if c = true then Q (.bl true) H1 else tD X.K X.mg E db s H1 Q) h (fun _ q => ⟨true, rfl, iteT (tD_const q)⟩) fun _ q => ⟨false, rfl, iteF q⟩
theorem se_not (ha : SE X E a da) : SE X E (.UnaryOp .Not a pos) (dNot da) := (pe_not ha).weak fun s H Q h =>
  tD_cut (Q' := fun x H1 => ∃ c, x = .bl c ∧ Q (.bl (!c)) H1) h (fun _ q => ⟨true, rfl, tD_const q⟩) fun _ q => ⟨false, rfl, tD_const q⟩
theorem se_if (hc : ST X E c dt) (ha : SE X E a da) (hb : SE X E b db) : SE X E (.IfExp c a b pos) (dIf dt da db) := (pe_ifExp hc ha hb).weak fun s H Q h => by
  obtain ⟨Hb, ρ, F0, Fr, σ, h, R, x, k⟩ := h
  refine ⟨Hb, ρ, F0, Fr, σ, h, R, x, (Rz.bind k).imp (fun w h1 k => ?_) fun _ _ z => z⟩
  rcases Rz.brB k with ⟨e, k⟩ | ⟨e, k⟩
  · exact ⟨true, e, fun Hb' ρ' H' s1 p1 R1 => iteT ⟨Hb', ρ', F0, Fr, σ, h1, R1, x.mono s1 p1, k.imp (Pst.back s1 p1) (Pex.back s1 p1)⟩⟩
  · exact ⟨false, e, fun Hb' ρ' H' s1 p1 R1 => iteF ⟨Hb', ρ', F0, Fr, σ, h1, R1, x.mono s1 p1, k.imp (Pst.back s1 p1) (Pex.back s1 p1)⟩⟩
end
end DL
namespace DL
open PySem PySem.Spec PyProof.Rows L2

def PFl (K : PySem.W.Frag) (Hb : Hp) (ρ : List Addr) (F0 : Hp) (D : Ends) (fl : Fl) (h' : DH) : Prop := match fl with
  | .next σ' => ∀ (Hb' : Hp) (ρ' : List Addr) (Fr' H' : Hp) (s' : L2.St), Same Hb Hb' → ρ <+: ρ' → Rel K Hb' ρ' Fr' h' H' → Slots K Hb' ρ' F0 Fr' σ' s' → D.nx s' H'
  | .brk σ' => ∀ (Hb' : Hp) (ρ' : List Addr) (Fr' H' : Hp) (s' : L2.St), Same Hb Hb' → ρ <+: ρ' → Rel K Hb' ρ' Fr' h' H' → Slots K Hb' ρ' F0 Fr' σ' s' → D.bk s' H'
  | .cont σ' => ∀ (Hb' : Hp) (ρ' : List Addr) (Fr' H' : Hp) (s' : L2.St), Same Hb Hb' → ρ <+: ρ' → Rel K Hb' ρ' Fr' h' H' → Slots K Hb' ρ' F0 Fr' σ' s' → D.ct s' H'
  | .ret w => Prt K Hb ρ F0 D.rt w h'
def tS (K : PySem.W.Frag) (mg : Str → Option Value) (E : XK) (d : DS) : TS := fun D s H => ∃ (Hb : Hp) (ρ : List Addr) (F0 Fr : Hp) (σ : DSt) (h : DH), Rel K Hb ρ Fr h H ∧ Slots K Hb ρ F0 Fr σ s ∧
  Rz (PFl K Hb ρ F0 D) (Pex K mg Hb ρ F0 E) (d σ h)
abbrev cE (E : XK) : L2.St → XK := fun _ => E
abbrev SS (X : Cx) (E : XK) (st : Stmt) (d : DS) : Prop := PS X st (tS X.K X.mg E d)
abbrev SSs (X : Cx) (E : XK) (st : List Stmt) (d : DS) : Prop := PSs X st (tS X.K X.mg E d)
section
variable {K : PySem.W.Frag} {mg : Str → Option Value} {E : XK} {Hb Hb' : Hp} {ρ ρ' : List Addr} {F0 Fr H : Hp} {D : Ends} {h : DH}
theorem PFl.back (a : Same Hb Hb') (b : ρ <+: ρ') (fl : Fl) (h : DH) (x : PFl K Hb ρ F0 D fl h) : PFl K Hb' ρ' F0 D fl h := by
  cases fl with
  | next σ => exact fun Hc ρc Fc Hc' s a' b' => x Hc ρc Fc Hc' s (a.trans a') (b.trans b')
  | brk σ => exact fun Hc ρc Fc Hc' s a' b' => x Hc ρc Fc Hc' s (a.trans a') (b.trans b')
  | cont σ => exact fun Hc ρc Fc Hc' s a' b' => x Hc ρc Fc Hc' s (a.trans a') (b.trans b')
  | ret w => exact fun Hc ρc Hc' v a' b' => x Hc ρc Hc' v (a.trans a') (b.trans b')
theorem Rel.weak (f : Same F0 Fr) (R : Rel K Hb ρ Fr h H) : Rel K Hb ρ F0 h H :=
  ⟨R.sub, f.trans R.fr, fun a o e => R.ap a o (f a o e), R.len, R.cell, fun n a e => ⟨(R.out n a e).1, f.free (R.out n a e).2⟩, R.inj, fun a o e => R.ft a o (f a o e)⟩
theorem Pex.lift (f : Same F0 Fr) (c : Str) (h : DH) (x : Pex K mg Hb ρ F0 E c h) : Pex K mg Hb ρ Fr E c h := by
  obtain ⟨u, e, x⟩ := x
  exact ⟨u, e, fun Hb' ρ' H' a b r => x Hb' ρ' H' a b (r.weak f)⟩
theorem tS_ex {d : DE} {f : DV → DS} {s : L2.St} {Q : VK} (k : tS K mg E (fun σ h => (d σ h).bind fun w h1 => f w σ h1) D s H)
    (q : ∀ (w : DV) (Hb : Hp) (ρ : List Addr) (F0 Fr : Hp) (σ : DSt) (h : DH) (H : Hp) (x : V), Rel K Hb ρ Fr h H → Slots K Hb ρ F0 Fr σ s → RepT K Hb ρ Fr x w → Rz (PFl K Hb ρ F0 D) (Pex K mg Hb ρ F0 E) (f w σ h) → Q x H) :
    tD K mg (cE E) d s H Q := by
  obtain ⟨Hb, ρ, F0, Fr, σ, h, R, x, k⟩ := k
  refine ⟨Hb, ρ, F0, Fr, σ, h, R, x, (Rz.bind k).imp (fun w h1 k => ?_) (Pex.lift x.fr)⟩
  intro Hb1 ρ1 H1 v1 s1 p1 R1 r1
  exact q w Hb1 ρ1 F0 Fr σ h1 H1 v1 R1 (x.mono s1 p1) r1 (k.imp (PFl.back s1 p1) (Pex.back s1 p1))
end

def dNext : DS := fun σ h => .ok (.next σ) h
def Fl.seq (d : DS) (fl : Fl) (h : DH) : Res Fl := match fl with
  | .next σ => d σ h
  | fl => .ok fl h
def dSeq (d1 d2 : DS) : DS := fun σ h => (d1 σ h).bind (Fl.seq d2)
def dExpr (d : DE) : DS := fun σ h => (d σ h).bind fun _ h1 => .ok (.next σ) h1
def dRet (d : DE) : DS := fun σ h => (d σ h).bind fun w h1 => chk (held w) (.ok (.ret w) h1)
def dRetN : DS := fun _ h => .ok (.ret .non) h
def dBrk : DS := fun σ h => .ok (.brk σ) h
def dCont : DS := fun σ h => .ok (.cont σ) h
def dIfS (dt : DE) (d1 d2 : DS) : DS := fun σ h => (dt σ h).bind fun b h1 => brB b (d1 σ h1) (d2 σ h1)
def setS (i : Nat) (w : DV) (σ : DSt) : DSt := σ.set i (.val w)
def dSet (i : Nat) (d : DE) : DS := fun σ h => (d σ h).bind fun w h1 => chk (held w) (.ok (.next (setS i w σ)) h1)
def frzS (i : Nat) (σ : DSt) : DSt := match σ[i]? with
  | some (.own ws) => σ.set i (.val (.lst ws))
  | _ => σ
def getV (σ : DSt) (i : Nat) : Option DV := match σ[i]? with
  | some (.val w) => some w
  | _ => none
def dRetV (i : Nat) : DS := fun σ h => (ofO (getV (frzS i σ) i) h).bind fun w h1 => chk (held w) (.ok (.ret w) h1)
def dSetV (i j : Nat) : DS := fun σ h => (ofO (getV (frzS j σ) j) h).bind fun w h1 => chk (held w) (.ok (.next (setS i w (frzS j σ))) h1)

section
variable {K : PySem.W.Frag} {Hb : Hp} {ρ : List Addr} {F0 Fr : Hp} {σ : DSt} {s : L2.St}
theorem slots_set {i : Nat} {w : DV} {v : V} (x : Slots K Hb ρ F0 Fr σ s) (r : Rep K Hb ρ v w) : Slots K Hb ρ F0 Fr (setS i w σ) (s.set i (some v)) := by
  refine ⟨x.fr, fun j q e => ?_, by unfold setS; rw [List.length_set, List.length_set]; exact x.len, fun j k a ws zs e1 e2 e3 e4 => ?_⟩
  · by_cases hij : i = j
    · subst hij
      unfold setS at e
      by_cases hl : i < σ.length
      · rw [List.getElem?_set_self hl] at e
        cases e
        exact ⟨v, List.getElem?_set_self (by rw [← x.len]; exact hl), .per r⟩
      · rw [List.getElem?_eq_none (by rw [List.length_set]; omega)] at e; cases e
    · unfold setS at e
      rw [List.getElem?_set_ne hij] at e
      have y := x.at_ j q e
      rw [List.getElem?_set_ne hij]
      exact y
  · unfold setS at e1 e2
    have h1 : i ≠ j := fun z => by
      subst z
      by_cases hl : i < σ.length
      · rw [List.getElem?_set_self hl] at e1; cases e1
      · rw [List.getElem?_eq_none (by rw [List.length_set]; omega)] at e1; cases e1
    have h2 : i ≠ k := fun z => by
      subst z
      by_cases hl : i < σ.length
      · rw [List.getElem?_set_self hl] at e2; cases e2
      · rw [List.getElem?_eq_none (by rw [List.length_set]; omega)] at e2; cases e2
    rw [List.getElem?_set_ne h1] at e1 e3
    rw [List.getElem?_set_ne h2] at e2 e4
    exact x.sep j k a ws zs e1 e2 e3 e4
def del (H : Hp) (a : Addr) : Hp := fun b => if b = a then none else H b
theorem del_ne {H : Hp} {a b : Addr} (h : b ≠ a) : del H a b = H b := if_neg h
theorem del_same {H : Hp} {a : Addr} : del H a a = none := if_pos rfl
theorem del_some {H : Hp} {a b : Addr} {o : HO} (h : del H a b = some o) : b ≠ a ∧ H b = some o := by
  by_cases e : b = a
  · subst e; rw [del_same] at h; cases h
  · exact ⟨e, by rw [del_ne e] at h; exact h⟩
theorem frz_ok {i : Nat} {h : DH} {H : Hp} (R : Rel K Hb ρ Fr h H) (x : Slots K Hb ρ F0 Fr σ s) : ∃ Hb' Fr', Same Hb Hb' ∧ Rel K Hb' ρ Fr' h H ∧ Slots K Hb' ρ F0 Fr' (frzS i σ) s := by
  unfold frzS
  cases e : σ[i]? with
  | none => exact ⟨Hb, Fr, Same.refl _, R, x⟩
  | some q =>
    cases q with
    | un => exact ⟨Hb, Fr, Same.refl _, R, x⟩
    | val w => exact ⟨Hb, Fr, Same.refl _, R, x⟩
    | fdt m => exact ⟨Hb, Fr, Same.refl _, R, x⟩
    | dx D m => exact ⟨Hb, Fr, Same.refl _, R, x⟩
    | fdx D m => exact ⟨Hb, Fr, Same.refl _, R, x⟩
    | dct m => exact ⟨Hb, Fr, Same.refl _, R, x⟩
    | own ws =>
      obtain ⟨a, xs, ev, f, n0, r⟩ := x.at_ i _ e
      have hb : Hb a = none := R.ap a _ f
      have s1 : Same Hb (upd Hb a (.lst xs)) := fun b o q => by rw [upd_ne (ne_of_none q hb)]; exact q
      have hρ : ∀ (n : Nat) (b : Addr), ρ[n]? = some b → b ≠ a := fun n b q z => by
        have := (R.out n b q).2
        rw [z, f] at this; cases this
      have hσ : i < σ.length := (List.getElem?_eq_some_iff.mp e).1
      refine ⟨upd Hb a (.lst xs), del Fr a, s1, ⟨fun b o q => ?_, fun b o q => R.fr b o (del_some q).2, fun b o q => ?_, R.len, fun n b c q1 q2 => ?_, fun n b q => ?_, R.inj, fun b o q => R.ft b o (del_some q).2⟩, ⟨fun b o q => ?_, fun j q ej => ?_, by rw [List.length_set]; exact x.len, fun j k b ws' zs e1 e2 e3 e4 => ?_⟩⟩
      · by_cases hba : b = a
        · subst hba; rw [upd_same] at q; cases q; exact R.fr _ _ f
        · rw [upd_ne hba] at q; exact R.sub b o q
      · obtain ⟨hba, q⟩ := del_some q
        rw [upd_ne hba]; exact R.ap b o q
      · exact (R.cell n b c q1 q2).mono s1 (List.prefix_refl _)
      · obtain ⟨z1, z2⟩ := R.out n b q
        exact ⟨by rw [upd_ne (hρ n b q)]; exact z1, by rw [del_ne (hρ n b q)]; exact z2⟩
      · have hba : b ≠ a := fun z => by rw [z, n0] at q; cases q
        rw [del_ne hba]; exact x.fr b o q
      · by_cases hij : i = j
        · subst hij
          rw [List.getElem?_set_self hσ] at ej
          cases ej
          exact ⟨.ref a, ev, .per (.lst upd_same (r.mono s1 (List.prefix_refl _)))⟩
        · rw [List.getElem?_set_ne hij] at ej
          have y := x.at_ j q ej
          cases q with
          | un => trivial
          | val w =>
            obtain ⟨v, e1, r1⟩ := y
            exact ⟨v, e1, r1.mono s1 (List.prefix_refl _) (Same.refl _)⟩
          | own zs =>
            obtain ⟨b, ys, e1, f1, n1, r1⟩ := y
            have hba : b ≠ a := fun z => by
              subst z
              exact hij (x.sep i j b ws zs e ej ev e1)
            exact ⟨b, ys, e1, by rw [del_ne hba]; exact f1, n1, r1.mono s1 (List.prefix_refl _)⟩
          | fdt m =>
            obtain ⟨b, od, l, e1, f1, r1⟩ := y
            exact ⟨b, od, l, e1, s1 _ _ f1, r1.mono s1 (List.prefix_refl _)⟩
          | fdx D m =>
            obtain ⟨b, od, l, e1, f1, r1⟩ := y
            exact ⟨b, od, l, e1, s1 _ _ f1, D.mono s1 r1⟩
          | dx D m =>
            obtain ⟨b, u, e1, f1, n1, r1⟩ := y
            have hba : b ≠ a := fun z => by
              subst z
              rw [f] at f1
              exact D.no_lst r1 (Option.some.inj f1).symm
            exact ⟨b, u, e1, by rw [del_ne hba]; exact f1, n1, D.mono s1 r1⟩
          | dct m =>
            obtain ⟨b, u, e1, f1, n1, r1⟩ := y
            have hba : b ≠ a := fun z => by
              subst z
              rw [f] at f1
              exact r1.no_lst (Option.some.inj f1).symm
            exact ⟨b, u, e1, by rw [del_ne hba]; exact f1, n1, r1.mono s1 (List.prefix_refl _)⟩
      · have h1 : i ≠ j := fun z => by subst z; rw [List.getElem?_set_self hσ] at e1; cases e1
        have h2 : i ≠ k := fun z => by subst z; rw [List.getElem?_set_self hσ] at e2; cases e2
        rw [List.getElem?_set_ne h1] at e1
        rw [List.getElem?_set_ne h2] at e2
        exact x.sep j k b ws' zs e1 e2 e3 e4
theorem slot_getV (x : Slots K Hb ρ F0 Fr σ s) {i : Nat} {w : DV} (e : getV σ i = some w) : ∃ v, s[i]? = some (some v) ∧ RepT K Hb ρ F0 v w := by
  unfold getV at e
  cases eq : σ[i]? with
  | none => rw [eq] at e; cases e
  | some q =>
    rw [eq] at e
    have y := x.at_ i q eq
    cases q with
    | un => cases e
    | val w' => cases e; exact y
    | own ws => cases e
    | fdt m => cases e
    | dx D m => cases e
    | fdx D m => cases e
    | dct m => cases e
end

section
variable {X : Cx} {E : XK} {e a b : Expr} {st : Stmt} {rest sts sts2 : List Stmt} {pos : Pos} {d da db dt : DE} {d1 d2 : DS}
theorem ss_nil : SSs X E [] dNext := pss_nil.weak fun D s H ⟨Hb, ρ, F0, Fr, σ, h, R, x, k⟩ => k Hb ρ Fr H s (Same.refl _) (List.prefix_refl _) R x
theorem ss_pass : SS X E (.Pass pos) dNext := ps_pass.weak fun D s H ⟨Hb, ρ, F0, Fr, σ, h, R, x, k⟩ => k Hb ρ Fr H s (Same.refl _) (List.prefix_refl _) R x
theorem ss_doc {x j pos pos'} : SS X E (.Expr (.Constant (.str x) j pos) pos') dNext := ps_doc.weak fun D s H ⟨Hb, ρ, F0, Fr, σ, h, R, x, k⟩ => k Hb ρ Fr H s (Same.refl _) (List.prefix_refl _) R x
theorem ss_brk : SS X E (.Break pos) dBrk := ps_break.weak fun D s H ⟨Hb, ρ, F0, Fr, σ, h, R, x, k⟩ => k Hb ρ Fr H s (Same.refl _) (List.prefix_refl _) R x
theorem ss_cont : SS X E (.Continue pos) dCont := ps_continue.weak fun D s H ⟨Hb, ρ, F0, Fr, σ, h, R, x, k⟩ => k Hb ρ Fr H s (Same.refl _) (List.prefix_refl _) R x
theorem ss_retN : SS X E (.Return none pos) dRetN := ps_retN.weak fun D s H ⟨Hb, ρ, F0, Fr, σ, h, R, x, k⟩ => k Hb ρ H .non (Same.refl _) (List.prefix_refl _) (R.weak x.fr) .non
theorem ss_one (h : SS X E st d1) : SSs X E [st] d1 := pss_one h
theorem ss_cons (h1 : SS X E st d1) (h2 : SSs X E rest d2) : SSs X E (st :: rest) (dSeq d1 d2) := (pss_cons h1 h2).weak fun D s H ⟨Hb, ρ, F0, Fr, σ, h, R, x, k⟩ => by
  refine ⟨Hb, ρ, F0, Fr, σ, h, R, x, (Rz.bind k).imp (fun fl h1 k => ?_) fun _ _ z => z⟩
  cases fl with
  | next σ' => exact fun Hb' ρ' Fr' H' s' a b R' x' => ⟨Hb', ρ', F0, Fr', σ', h1, R', x', k.imp (PFl.back a b) (Pex.back a b)⟩
  | brk σ' => exact k
  | cont σ' => exact k
  | ret w => exact k
theorem ss_expr (he : SE X (cE E) e d) (hs : swapsWith e none pos.line X.env = pure false := by rfl) : SS X E (.Expr e pos) (dExpr d) := (ps_expr he hs).weak fun D s H k =>
  tS_ex (f := fun _ σ h1 => .ok (.next σ) h1) k fun w Hb ρ F0 Fr σ h H x R sl r k => k Hb ρ Fr H s (Same.refl _) (List.prefix_refl _) R sl
theorem ss_ret (he : SE X (cE E) e d) : SS X E (.Return (some e) pos) (dRet d) := (ps_ret he).weak fun D s H k =>
  tS_ex (f := fun w σ h1 => chk (held w) (.ok (.ret w) h1)) k fun w Hb ρ F0 Fr σ h H x R sl r k => by
    obtain ⟨hw, k⟩ := Rz.chk k
    exact k Hb ρ H x (Same.refl _) (List.prefix_refl _) (R.weak sl.fr) (r.held hw)
theorem ss_if (hc : ST X (cE E) e dt) (h1 : SSs X E sts d1) (h2 : SSs X E sts2 d2) : SS X E (.If e sts sts2 pos) (dIfS dt d1 d2) := (ps_if hc h1 h2).weak fun D s H ⟨Hb, ρ, F0, Fr, σ, h, R, x, k⟩ => by
  refine ⟨Hb, ρ, F0, Fr, σ, h, R, x, (Rz.bind k).imp (fun w h1 k => ?_) (Pex.lift x.fr)⟩
  rcases Rz.brB k with ⟨ew, k⟩ | ⟨ew, k⟩
  · exact ⟨true, ew, fun Hb' ρ' H' s1 p1 R1 => iteT ⟨Hb', ρ', F0, Fr, σ, h1, R1, x.mono s1 p1, k.imp (PFl.back s1 p1) (Pex.back s1 p1)⟩⟩
  · exact ⟨false, ew, fun Hb' ρ' H' s1 p1 R1 => iteF ⟨Hb', ρ', F0, Fr, σ, h1, R1, x.mono s1 p1, k.imp (PFl.back s1 p1) (Pex.back s1 p1)⟩⟩
theorem ss_set {i : Nat} {x : Str} {pos' : Pos} (h : PS X (.Assign [.Name x pos'] e pos) (tAsg (tD X.K X.mg (cE E) d) (gName i))) : SS X E (.Assign [.Name x pos'] e pos) (dSet i d) := h.weak fun D s H k =>
  tS_ex (f := fun w σ h1 => chk (held w) (.ok (.next (setS i w σ)) h1)) k fun w Hb ρ F0 Fr σ h H x R sl r k => by
    obtain ⟨hw, k⟩ := Rz.chk k
    exact k Hb ρ Fr H _ (Same.refl _) (List.prefix_refl _) R (slots_set sl (r.held hw))
theorem ss_retV {i : Nat} {x : Str} {pos' : Pos} (h : PE X (.Name x pos') (tVar i)) : SS X E (.Return (some (.Name x pos')) pos) (dRetV i) := (ps_ret h).weak fun D s H ⟨Hb, ρ, F0, Fr, σ, h, R, x, k⟩ => by
  obtain ⟨Hb', Fr', s1, R1, x1⟩ := frz_ok (i := i) R x
  obtain ⟨w, ew, k⟩ := Rz.ofO (Rz.bind k)
  obtain ⟨hw, k⟩ := Rz.chk k
  obtain ⟨v, ev, r⟩ := slot_getV x1 ew
  exact ⟨v, ev, k Hb' ρ H v s1 (List.prefix_refl _) (R1.weak x1.fr) (r.held hw)⟩
theorem ss_setV {i j : Nat} {x y : Str} {pos' pos2 : Pos} (h : PS X (.Assign [.Name x pos'] (.Name y pos2) pos) (tAsg (tVar j) (gName i))) : SS X E (.Assign [.Name x pos'] (.Name y pos2) pos) (dSetV i j) := h.weak fun D s H ⟨Hb, ρ, F0, Fr, σ, h, R, x, k⟩ => by
  obtain ⟨Hb', Fr', s1, R1, x1⟩ := frz_ok (i := j) R x
  obtain ⟨w, ew, k⟩ := Rz.ofO (Rz.bind k)
  obtain ⟨hw, k⟩ := Rz.chk k
  obtain ⟨v, ev, r⟩ := slot_getV x1 ew
  exact ⟨v, ev, k Hb' ρ Fr' H _ s1 (List.prefix_refl _) R1 (slots_set x1 (r.held hw))⟩
end
end DL
namespace DL
open PySem PySem.Spec PyProof.Rows L2

def Fl.turn (again out : DSt → DH → Res Fl) (fl : Fl) (h : DH) : Res Fl := match fl with
  | .next σ => again σ h
  | .cont σ => again σ h
  | .brk σ => out σ h
  | .ret w => .ok (.ret w) h
def loopW (dt : DE) (db : DS) : Nat → DS
  | 0 => fun _ _ => .bad
  | n + 1 => fun σ h => (dt σ h).bind fun w h1 => brB w ((db σ h1).bind (Fl.turn (loopW dt db n) dNext)) (.ok (.next σ) h1)
abbrev TF := DV → DSt → Option DSt
def loopF (tf : TF) (db : DS) : List DV → DS
  | [] => dNext
  | w :: ws => fun σ h => (ofO (tf w σ) h).bind fun σ1 h1 => (db σ1 h1).bind (Fl.turn (loopF tf db ws) dNext)
def dFor (src : DA) (tf : TF) (db : DS) : DS := fun σ h => (src σ h).bind fun ws h1 => loopF tf db ws σ h1
def dForV (i : Nat) (src : DA) (tf : TF) (db : DS) : DS := fun σ h => dFor src tf db (frzS i σ) h

section
variable {K : PySem.W.Frag} {mg : Str → Option Value} {E : XK}
structure Src (K : PySem.W.Frag) (J : It) (ws : List DV) (Iv : Hp → List Addr → Hp → Prop) : Prop where
  mono : ∀ Hb Hb' ρ ρ' G, Same Hb Hb' → ρ <+: ρ' → Iv Hb ρ G → Iv Hb' ρ' G
  stop : ∀ Hb ρ G Fr h H, Iv Hb ρ G → Same G Fr → Rel K Hb ρ Fr h H → J.stop ws.length H
  go : ∀ Hb ρ G Fr h H (i : Nat) w, Iv Hb ρ G → Same G Fr → Rel K Hb ρ Fr h H → ws[i]? = some w → J.go i H ∧ ∀ x H', J.yld i H x H' → ∃ Hb', Same Hb Hb' ∧ Rel K Hb' ρ Fr h H' ∧ Rep K Hb' ρ x w
def tI (K : PySem.W.Frag) (mg : Str → Option Value) (E : L2.St → XK) (c : Bool) (d : DA) : TI := fun s H R => ∃ (Hb : Hp) (ρ : List Addr) (F0 Fr : Hp) (σ : DSt) (h : DH), Rel K Hb ρ Fr h H ∧ Slots K Hb ρ F0 Fr σ s ∧
  Rz (fun ws h' => ∀ (Hb' : Hp) (ρ' : List Addr) (H' : Hp) (J : It) (Iv : Hp → List Addr → Hp → Prop), Same Hb Hb' → ρ <+: ρ' → Rel K Hb' ρ' Fr h' H' → Src K J ws Iv → Iv Hb' ρ' (if c = true then Fr else F0) → R J H') (Pex K mg Hb ρ Fr (E s)) (d σ h)
abbrev SI (X : Cx) (E : L2.St → XK) (c : Bool) (tg e : Expr) (d : DA) : Prop := PI X tg e (tI X.K X.mg E c d)
def GD (K : PySem.W.Frag) (g : TG) (tf : TF) : Prop := ∀ (Hb : Hp) (ρ : List Addr) (F0 Fr : Hp) (σ σ' : DSt) (s : L2.St) (h : DH) (H : Hp) (v : V) (w : DV) (Q : L2.St → Hp → Prop), Rel K Hb ρ Fr h H → Slots K Hb ρ F0 Fr σ s → Rep K Hb ρ v w → tf w σ = some σ' →
  (∀ s', Slots K Hb ρ F0 Fr σ' s' → Q s' H) → g v s H Q

theorem turn_ok {again : DS} {D D' : Ends} {Hb : Hp} {ρ : List Addr} {F0 : Hp} {fl : Fl} {h : DH} (k : Rz (PFl K Hb ρ F0 D) (Pex K mg Hb ρ F0 E) (Fl.turn again dNext fl h))
    (hn : ∀ Hb' ρ' Fr' σ' s' H', Same Hb Hb' → ρ <+: ρ' → Rel K Hb' ρ' Fr' h H' → Slots K Hb' ρ' F0 Fr' σ' s' → Rz (PFl K Hb' ρ' F0 D) (Pex K mg Hb' ρ' F0 E) (again σ' h) → D'.nx s' H' ∧ D'.ct s' H') (hr : D'.rt = D.rt) (hb : D'.bk = D.nx) : PFl K Hb ρ F0 D' fl h := by
  cases fl with
  | next σ => exact fun Hb' ρ' Fr' H' s' a b R x => (hn Hb' ρ' Fr' σ s' H' a b R x (k.imp (PFl.back a b) (Pex.back a b))).1
  | cont σ => exact fun Hb' ρ' Fr' H' s' a b R x => (hn Hb' ρ' Fr' σ s' H' a b R x (k.imp (PFl.back a b) (Pex.back a b))).2
  | brk σ =>
    show ∀ (Hb' : Hp) (ρ' : List Addr) (Fr' H' : Hp) (s' : L2.St), Same Hb Hb' → ρ <+: ρ' → Rel K Hb' ρ' Fr' h H' → Slots K Hb' ρ' F0 Fr' σ s' → D'.bk s' H'
    rw [hb]
    exact k
  | ret w =>
    show Prt K Hb ρ F0 D'.rt w h
    rw [hr]
    exact k
theorem for_run {src : DA} {tf : TF} {db : DS} {g : TG} (hg : GD K g tf) {D : Ends} {s : L2.St} {H : Hp} (h : tS K mg E (dFor src tf db) D s H) : tFor (tI K mg (cE E) false src) g (tS K mg E db) D s H := by
  obtain ⟨Hb, ρ, F0, Fr, σ, h, R, x, k⟩ := h
  refine ⟨Hb, ρ, F0, Fr, σ, h, R, x, (Rz.bind k).imp (fun ws h1 k => ?_) (Pex.lift x.fr)⟩
  intro Hb1 ρ1 H1 J Iv s1 p1 R1 S iv
  rw [if_neg Bool.false_ne_true] at iv
  refine ⟨fun i m s H => m = ws.length - i ∧ i ≤ ws.length ∧ ∃ (Hb : Hp) (ρ : List Addr) (Fr : Hp) (σ : DSt) (h : DH), Rel K Hb ρ Fr h H ∧ Slots K Hb ρ F0 Fr σ s ∧ Iv Hb ρ F0 ∧ Rz (PFl K Hb ρ F0 D) (Pex K mg Hb ρ F0 E) (loopF tf db (ws.drop i) σ h),
    ⟨ws.length, rfl, Nat.zero_le _, Hb1, ρ1, Fr, σ, h1, R1, x.mono s1 p1, iv, by rw [List.drop_zero]; exact k.imp (PFl.back s1 p1) (Pex.back s1 p1)⟩, ?_⟩
  rintro i m s2 H2 ⟨rfl, hi, Hb2, ρ2, Fr2, σ2, h2, R2, x2, iv2, k2⟩
  by_cases hlt : i < ws.length
  · have hw : ws[i]? = some ws[i] := List.getElem?_eq_getElem hlt
    obtain ⟨hgo, hyl⟩ := S.go Hb2 ρ2 F0 Fr2 h2 H2 i ws[i] iv2 x2.fr R2 hw
    refine .inr ⟨hgo, fun s' H' => i + 1 ≤ ws.length ∧ ∃ (Hb : Hp) (ρ : List Addr) (Fr : Hp) (σ : DSt) (h : DH), Rel K Hb ρ Fr h H' ∧ Slots K Hb ρ F0 Fr σ s' ∧ Iv Hb ρ F0 ∧ Rz (PFl K Hb ρ F0 D) (Pex K mg Hb ρ F0 E) (loopF tf db (ws.drop (i + 1)) σ h),
      fun s' H' z => ⟨ws.length - (i + 1), by omega, rfl, z⟩, fun v H3 y => ?_⟩
    obtain ⟨Hb3, s3, R3, r3⟩ := hyl v H3 y
    rw [List.drop_eq_getElem_cons hlt] at k2
    obtain ⟨σ', et, k2⟩ := Rz.ofO (Rz.bind k2)
    refine hg Hb3 ρ2 F0 Fr2 σ2 σ' s2 h2 H3 v ws[i] _ R3 (x2.mono s3 (List.prefix_refl _)) r3 et fun s' x' => ?_
    refine ⟨Hb3, ρ2, F0, Fr2, σ', h2, R3, x', (Rz.bind k2).imp (fun fl h3 k => ?_) (Pex.back s3 (List.prefix_refl _))⟩
    refine turn_ok (k.imp (PFl.back s3 (List.prefix_refl _)) (Pex.back s3 (List.prefix_refl _))) (fun Hb' ρ' Fr' σ4 s4 H4 a b R4 x4 k4 => ?_) rfl rfl
    have z := S.mono _ _ _ _ _ (s3.trans a) b iv2
    exact ⟨⟨hlt, Hb', ρ', Fr', σ4, h3, R4, x4, z, k4⟩, ⟨hlt, Hb', ρ', Fr', σ4, h3, R4, x4, z, k4⟩⟩
  · have e : i = ws.length := by omega
    subst e
    refine .inl ⟨S.stop Hb2 ρ2 F0 Fr2 h2 H2 iv2 x2.fr R2, ?_⟩
    rw [List.drop_length] at k2
    exact k2 Hb2 ρ2 Fr2 H2 s2 (Same.refl _) (List.prefix_refl _) R2 x2
theorem while_run {dt : DE} {db : DS} {n : Nat} {D : Ends} {s : L2.St} {H : Hp} (h : tS K mg E (loopW dt db n) D s H) : tWhile (tT K mg (cE E) dt) (tS K mg E db) D s H := by
  refine ⟨fun m s H => tS K mg E (loopW dt db m) D s H, ⟨n, h⟩, ?_⟩
  intro m s H w
  cases m with
  | zero => obtain ⟨_, _, _, _, _, _, _, _, k⟩ := w; exact k.elim
  | succ m =>
    obtain ⟨Hb, ρ, F0, Fr, σ, h, R, x, k⟩ := w
    refine ⟨Hb, ρ, F0, Fr, σ, h, R, x, (Rz.bind k).imp (fun w h1 k => ?_) (Pex.lift x.fr)⟩
    rcases Rz.brB k with ⟨ew, k⟩ | ⟨ew, k⟩
    · refine ⟨true, ew, fun Hb' ρ' H' s1 p1 R1 => iteT ⟨fun s' H' => tS K mg E (loopW dt db m) D s' H', fun s' H' z => ⟨m, Nat.lt_succ_self m, z⟩, ?_⟩⟩
      refine ⟨Hb', ρ', F0, Fr, σ, h1, R1, x.mono s1 p1, (Rz.bind k).imp (fun fl h2 k => ?_) (Pex.back s1 p1)⟩
      refine turn_ok (k.imp (PFl.back s1 p1) (Pex.back s1 p1)) (fun Hb2 ρ2 Fr2 σ2 s2 H2 a b R2 x2 k2 => ?_) rfl rfl
      exact ⟨⟨Hb2, ρ2, F0, Fr2, σ2, h2, R2, x2, k2⟩, ⟨Hb2, ρ2, F0, Fr2, σ2, h2, R2, x2, k2⟩⟩
    · exact ⟨false, ew, fun Hb' ρ' H' s1 p1 R1 => iteF (k Hb' ρ' Fr H' s s1 p1 R1 (x.mono s1 p1))⟩
def tfN (i : Nat) : TF := fun w σ => some (setS i w σ)
theorem gd_name {i : Nat} : GD K (gName i) (tfN i) := fun Hb ρ F0 Fr σ σ' s h H v w Q R x r e q => by
  cases e
  exact q _ (slots_set x r)
abbrev TFs := List DV → DSt → Option DSt
def GDs (K : PySem.W.Frag) (g : TGs) (tf : TFs) : Prop := ∀ (Hb : Hp) (ρ : List Addr) (F0 Fr : Hp) (σ σ' : DSt) (s : L2.St) (h : DH) (H : Hp) (vs : List V) (ws : List DV) (Q : L2.St → Hp → Prop), Rel K Hb ρ Fr h H → Slots K Hb ρ F0 Fr σ s → Reps K Hb ρ vs ws → tf ws σ = some σ' →
  (∀ s', Slots K Hb ρ F0 Fr σ' s' → Q s' H) → g vs s H Q
def tfsNil : TFs := fun ws σ => match ws with
  | [] => some σ
  | _ => none
def tfsCons (t : TF) (u : TFs) : TFs := fun ws σ => match ws with
  | w :: r => (t w σ).bind fun σ' => u r σ'
  | [] => none
def tfT (n : Nat) (t : TFs) : TF := fun w σ => match w with
  | .tup ws => if ws.length = n then t ws σ else none
  | _ => none
theorem gds_nil : GDs K gNil tfsNil := fun Hb ρ F0 Fr σ σ' s h H vs ws Q R x r e q => by
  cases r with
  | nil => cases e; exact ⟨rfl, q s x⟩
  | cons _ _ => cases e
theorem gds_cons {g : TG} {gs : TGs} {t : TF} {u : TFs} (hg : GD K g t) (hs : GDs K gs u) : GDs K (gCons g gs) (tfsCons t u) := fun Hb ρ F0 Fr σ σ' s h H vs ws Q R x r e q => by
  cases r with
  | nil => cases e
  | cons r1 rr =>
    unfold tfsCons at e
    obtain ⟨σ1, e1, e2⟩ := Option.bind_eq_some_iff.mp e
    exact ⟨_, _, rfl, hg Hb ρ F0 Fr σ σ1 s h H _ _ _ R x r1 e1 fun s1 x1 => hs Hb ρ F0 Fr σ1 σ' s1 h H _ _ Q R x1 rr e2 q⟩
theorem gd_tup {n : Nat} {gs : TGs} {u : TFs} (hs : GDs K gs u) : GD K (gTup K n gs) (tfT n u) := fun Hb ρ F0 Fr σ σ' s h H v w Q R x r e q => by
  cases r with
  | tup hq rr =>
    rename_i a xs ws
    have hq := SqT.of (K := K) hq
    have e : (if ws.length = n then u ws σ else none) = some σ' := e
    by_cases hn : ws.length = n
    · rw [if_pos hn] at e
      exact ⟨_, _, rfl, sqt_same R.sub hq, rr.length.trans hn, hs Hb ρ F0 Fr σ σ' s h H _ _ Q R x rr e q⟩
    · rw [if_neg hn] at e; cases e
  | _ => cases e
end

section
variable {X : Cx} {E : XK} {e a b tg : Expr} {st : Stmt} {rest sts sts2 : List Stmt} {pos : Pos} {d da db dt : DE} {d1 d2 : DS}
theorem ss_while {n : Nat} (hp : PassesOwn (model X.prog X.w) X.A X.env X.xe) (hc : ST X (cE E) e dt) (hb : SSs X E sts d1) : SS X E (.While e sts [] pos) (loopW dt d1 n) := (ps_while hp hc hb).weak fun D s H h => while_run h
theorem ss_for {src : DA} {g : TG} {tf : TF} (hp : PassesOwn (model X.prog X.w) X.A X.env X.xe) (hc : X.calm = true) (hi : SI X (cE E) false tg e src) (hg : PG X tg g) (gd : GD X.K g tf) (hb : SSs X E sts d1) (hs : ∀ x, foldedSetIterable e X.env x = pure x := by intro _; rfl) :
    SS X E (.For tg e sts [] pos) (dFor src tf d1) := (ps_for hp hc hi hg hb hs).weak fun D s H h => for_run gd h
theorem ss_forV {i : Nat} {src : DA} {g : TG} {tf : TF} (hp : PassesOwn (model X.prog X.w) X.A X.env X.xe) (hc : X.calm = true) (hi : SI X (cE E) false tg e src) (hg : PG X tg g) (gd : GD X.K g tf) (hb : SSs X E sts d1) (hs : ∀ x, foldedSetIterable e X.env x = pure x := by intro _; rfl) :
    SS X E (.For tg e sts [] pos) (dForV i src tf d1) := (ss_for hp hc hi hg gd hb hs).weak fun D s H ⟨Hb, ρ, F0, Fr, σ, h, R, x, k⟩ => by
  obtain ⟨Hb', Fr', s1, R1, x1⟩ := frz_ok (i := i) R x
  exact ⟨Hb', ρ, F0, Fr', frzS i σ, h, R1, x1, Rz.imp k (PFl.back s1 (List.prefix_refl _)) (Pex.back s1 (List.prefix_refl _))⟩

theorem pi_seq {tl : TE} (hl : PE X e tl) : PI X tg e (fun σ H R => tl σ H fun x H1 => ∃ a, x = .ref a ∧ (((∃ xs, SqL X.K H1 a xs) ∧ R (Itl X.K a) H1) ∨ ((∃ xs, SqT X.K H1 a xs) ∧ R (Itt X.K a) H1))) := by
  refine ⟨fun pins s σ H R I h => ?_⟩
  refine thn (hl.run pins s σ H _ I h) fun v s1 ⟨x, H1, I1, r1, q1⟩ => ?_
  obtain ⟨a, e, q⟩ := q1
  subst e
  cases r1
  rcases q with ⟨⟨xs, hq⟩, q⟩ | ⟨⟨xs, hq⟩, q⟩
  · obtain ⟨its, rv, p, hz⟩ := I1.list hq
    refine wpAny_pyIter_list p.isList ?_
    refine ⟨s1.heap.objs.size, [s1.heap.objs.size], _, _, H1, rfl, I1.kept (t' := s1.toks) fun b o e => Heap.get?_push_of_some _ e, turn_list a _, ⟨_, Heap.get?_push_size _ rfl, rfl, rfl⟩, fun b hb => ?_, q⟩
    have e : b = s1.heap.objs.size := by simpa using hb
    subst e
    exact I1.fpOk (Nat.le_refl _) (I1.hok.fresh (Nat.le_refl _))
  · obtain ⟨its, rv, p, hz⟩ := I1.tuple hq
    refine wpAny_pyIter_tuple (show s1.heap.IsTuple a its.toArray from p) ?_
    refine ⟨s1.heap.objs.size, [s1.heap.objs.size], _, _, H1, rfl, I1.kept (t' := s1.toks) fun b o e => Heap.get?_push_of_some _ e, turn_tuple a _, ⟨_, Heap.get?_push_size _ rfl, rfl, rfl⟩, fun b hb => ?_, q⟩
    have e : b = s1.heap.objs.size := by simpa using hb
    subst e
    exact I1.fpOk (Nat.le_refl _) (I1.hok.fresh (Nat.le_refl _))
def seqOf : DV → Option (List DV)
  | .tup ws => some ws
  | .lst ws => some ws
  | .brw ws => some ws
  | _ => none
def heldSeq : DV → Option (List DV)
  | .tup ws => some ws
  | .lst ws => some ws
  | _ => none
theorem src_list {K : PySem.W.Frag} {a : Addr} {xs : List V} {ws : List DV} {Iv : Hp → List Addr → Hp → Prop} (mono : ∀ Hb Hb' ρ ρ' G, Same Hb Hb' → ρ <+: ρ' → Iv Hb ρ G → Iv Hb' ρ' G) (hq : ∀ Hb ρ G Fr h H, Iv Hb ρ G → Same G Fr → Rel K Hb ρ Fr h H → SqL K H a xs) (hr : ∀ Hb ρ G, Iv Hb ρ G → Reps K Hb ρ xs ws) :
    Src K (Itl K a) ws Iv where
  mono := mono
  stop := fun Hb ρ G Fr h H iv g R => ⟨xs, hq Hb ρ G Fr h H iv g R, Nat.le_of_eq (hr Hb ρ G iv).length⟩
  go := fun Hb ρ G Fr h H i w iv g R e => by
    obtain ⟨v, ev, r⟩ := (hr Hb ρ G iv).get e
    have q := hq Hb ρ G Fr h H iv g R
    refine ⟨⟨xs, v, q, ev⟩, fun x H' y => ?_⟩
    obtain ⟨rfl, y⟩ := y
    have := (y xs q).symm.trans ev
    cases this
    exact ⟨Hb, Same.refl _, R, r⟩
theorem src_tup {K : PySem.W.Frag} {a : Addr} {xs : List V} {ws : List DV} {Iv : Hp → List Addr → Hp → Prop} (mono : ∀ Hb Hb' ρ ρ' G, Same Hb Hb' → ρ <+: ρ' → Iv Hb ρ G → Iv Hb' ρ' G) (hq : ∀ Hb ρ G, Iv Hb ρ G → SqT K Hb a xs) (hr : ∀ Hb ρ G, Iv Hb ρ G → Reps K Hb ρ xs ws) :
    Src K (Itt K a) ws Iv where
  mono := mono
  stop := fun Hb ρ G Fr h H iv g R => ⟨xs, sqt_same R.sub (hq Hb ρ G iv), Nat.le_of_eq (hr Hb ρ G iv).length⟩
  go := fun Hb ρ G Fr h H i w iv g R e => by
    obtain ⟨v, ev, r⟩ := (hr Hb ρ G iv).get e
    have q := sqt_same R.sub (hq Hb ρ G iv)
    refine ⟨⟨xs, v, q, ev⟩, fun x H' y => ?_⟩
    obtain ⟨rfl, y⟩ := y
    have := (y xs q).symm.trans ev
    cases this
    exact ⟨Hb, Same.refl _, R, r⟩
theorem src_rep {K : PySem.W.Frag} {Hb : Hp} {ρ : List Addr} {G : Hp} {v : V} {w : DV} {ws : List DV} (r : RepT K Hb ρ G v w) (e : seqOf w = some ws) :
    ∃ a, v = .ref a ∧ ((∃ xs Iv, Src K (Itl K a) ws Iv ∧ Iv Hb ρ G ∧ ∀ Fr h H, Same G Fr → Rel K Hb ρ Fr h H → SqL K H a xs) ∨ (∃ xs Iv, Src K (Itt K a) ws Iv ∧ Iv Hb ρ G ∧ ∀ Fr h H, Rel K Hb ρ Fr h H → SqT K H a xs)) := by
  cases r with
  | per r =>
    cases r with
    | tup hq rr =>
      cases e
      rename_i a xs
      have hq := SqT.of (K := K) hq
      refine ⟨a, rfl, .inr ⟨xs, fun Hb ρ G => SqT K Hb a xs ∧ Reps K Hb ρ xs ws, src_tup (fun _ _ _ _ _ s p iv => ⟨sqt_same s iv.1, iv.2.mono s p⟩) (fun _ _ _ iv => iv.1) (fun _ _ _ iv => iv.2), ⟨hq, rr⟩, fun Fr h H R => sqt_same R.sub hq⟩⟩
    | lst hq rr =>
      cases e
      rename_i a xs
      refine ⟨a, rfl, .inl ⟨xs, fun Hb ρ G => Hb a = some (.lst xs) ∧ Reps K Hb ρ xs ws, src_list (fun _ _ _ _ _ s p iv => ⟨s _ _ iv.1, iv.2.mono s p⟩) (fun _ _ _ _ _ _ iv _ R => SqL.of (R.sub _ _ iv.1)) (fun _ _ _ iv => iv.2), ⟨hq, rr⟩, fun Fr h H _ R => SqL.of (R.sub _ _ hq)⟩⟩
    | _ => cases e
  | brw hq rr =>
    cases e
    rename_i a xs
    refine ⟨a, rfl, .inl ⟨xs, fun Hb ρ G => SqL K G a xs ∧ Reps K Hb ρ xs ws, src_list (fun _ _ _ _ _ s p iv => ⟨iv.1, iv.2.mono s p⟩) (fun _ _ _ _ _ _ iv g R => sql_same R.fr (sql_same g iv.1)) (fun _ _ _ iv => iv.2), ⟨hq, rr⟩, fun Fr h H g R => sql_same R.fr (sql_same g hq)⟩⟩
def dSeqOf (d : DE) : DA := fun σ h => (d σ h).bind fun w h1 => ofO (seqOf w) h1
def dHeld (d : DE) : DA := fun σ h => (d σ h).bind fun w h1 => ofO (heldSeq w) h1
def dSlot (i : Nat) : DA := fun σ h => ofO ((getV σ i).bind seqOf) h
theorem si_seq {E : L2.St → XK} (he : SE X E e d) : SI X E true tg e (dSeqOf d) := (pi_seq he).weak fun s H Rr ⟨Hb, ρ, F0, Fr, σ, h, R, x, k⟩ => by
  refine ⟨Hb, ρ, F0, Fr, σ, h, R, x, (Rz.bind k).imp (fun w h1 k => ?_) fun _ _ z => z⟩
  obtain ⟨ws, ew, k⟩ := Rz.ofO k
  intro Hb1 ρ1 H1 v s1 p1 R1 r1
  obtain ⟨a, ea, y⟩ := src_rep r1 ew
  subst ea
  rcases y with ⟨xs, Iv, S, iv, q⟩ | ⟨xs, Iv, S, iv, q⟩
  · exact ⟨a, rfl, .inl ⟨⟨xs, q Fr h1 H1 (Same.refl _) R1⟩, k Hb1 ρ1 H1 _ Iv s1 p1 R1 S iv⟩⟩
  · exact ⟨a, rfl, .inr ⟨⟨xs, q Fr h1 H1 R1⟩, k Hb1 ρ1 H1 _ Iv s1 p1 R1 S iv⟩⟩
theorem held_seq {w : DV} {ws : List DV} (h : heldSeq w = some ws) : seqOf w = some ws ∧ held w = true := by
  cases w <;> first | exact ⟨h, rfl⟩ | cases h
theorem si_held {E : L2.St → XK} {c : Bool} (he : SE X E e d) : SI X E c tg e (dHeld d) := (pi_seq he).weak fun s H Rr ⟨Hb, ρ, F0, Fr, σ, h, R, x, k⟩ => by
  refine ⟨Hb, ρ, F0, Fr, σ, h, R, x, (Rz.bind k).imp (fun w h1 k => ?_) fun _ _ z => z⟩
  obtain ⟨ws, ew, k⟩ := Rz.ofO k
  obtain ⟨ew, hw⟩ := held_seq ew
  intro Hb1 ρ1 H1 v s1 p1 R1 r1
  obtain ⟨a, ea, y⟩ := src_rep (G := if c = true then Fr else F0) (.per (r1.held hw)) ew
  have g : Same (if c = true then Fr else F0) Fr := by
    cases c with
    | true => exact Same.refl _
    | false => exact x.fr
  subst ea
  rcases y with ⟨xs, Iv, S, iv, q⟩ | ⟨xs, Iv, S, iv, q⟩
  · exact ⟨a, rfl, .inl ⟨⟨xs, q Fr h1 H1 g R1⟩, k Hb1 ρ1 H1 _ Iv s1 p1 R1 S iv⟩⟩
  · exact ⟨a, rfl, .inr ⟨⟨xs, q Fr h1 H1 R1⟩, k Hb1 ρ1 H1 _ Iv s1 p1 R1 S iv⟩⟩
theorem si_slot {E : L2.St → XK} {i : Nat} {x : Str} {p : Pos} (he : PE X (.Name x p) (tVar i)) : SI X E false tg (.Name x p) (dSlot i) := (pi_seq he).weak fun s H Rr ⟨Hb, ρ, F0, Fr, σ, h, R, x, k⟩ => by
  obtain ⟨ws, ew, k⟩ := Rz.ofO k
  obtain ⟨w, e1, e2⟩ := Option.bind_eq_some_iff.mp ew
  obtain ⟨v, ev, r⟩ := slot_getV x e1
  obtain ⟨a, ea, y⟩ := src_rep r e2
  subst ea
  rw [if_neg Bool.false_ne_true] at k
  rcases y with ⟨xs, Iv, S, iv, q⟩ | ⟨xs, Iv, S, iv, q⟩
  · exact ⟨.ref a, ev, a, rfl, .inl ⟨⟨xs, q Fr h H x.fr R⟩, k Hb ρ H _ Iv (Same.refl _) (List.prefix_refl _) R S iv⟩⟩
  · exact ⟨.ref a, ev, a, rfl, .inr ⟨⟨xs, q Fr h H R⟩, k Hb ρ H _ Iv (Same.refl _) (List.prefix_refl _) R S iv⟩⟩
def intsFrom (lo : Int) : Nat → List DV
  | 0 => []
  | n + 1 => .int lo :: intsFrom (lo + 1) n
theorem intsFrom_length : ∀ (n : Nat) (lo : Int), (intsFrom lo n).length = n
  | 0, _ => rfl
  | n + 1, lo => congrArg (· + 1) (intsFrom_length n (lo + 1))
theorem intsFrom_get : ∀ (n : Nat) (lo : Int) (i : Nat) (w : DV), (intsFrom lo n)[i]? = some w → i < n ∧ w = .int (lo + i)
  | 0, _, _, _, e => by cases e
  | n + 1, lo, 0, w, e => by cases e; exact ⟨Nat.succ_pos n, by simp⟩
  | n + 1, lo, i + 1, w, e => by
    obtain ⟨h1, h2⟩ := intsFrom_get n (lo + 1) i w e
    refine ⟨by omega, h2.trans (congrArg DV.int ?_)⟩
    omega
theorem src_range {K : PySem.W.Frag} (lo : Int) (n : Nat) : Src K (Itr lo n) (intsFrom lo n) (fun _ _ _ => True) where
  mono := fun _ _ _ _ _ _ _ z => z
  stop := fun _ _ _ _ _ _ _ _ _ => Nat.le_of_eq (intsFrom_length n lo).symm
  go := fun Hb ρ G Fr h H i w _ _ R e => by
    obtain ⟨h1, h2⟩ := intsFrom_get n lo i w e
    refine ⟨h1, fun x H' y => ?_⟩
    obtain ⟨rfl, rfl⟩ := y
    subst h2
    exact ⟨Hb, Same.refl _, R, .int _⟩
def big : Int := 4611686018427387904
def gRange1 : List DV → Option (List DV)
  | [.int j] => if -1000000 ≤ j ∧ j ≤ 1000000 then some (intsFrom 0 j.toNat) else none
  | _ => none
def gRange2 : List DV → Option (List DV)
  | [.int i, .int j] => if -1000000 ≤ i ∧ i ≤ 1000000 ∧ -1000000 ≤ j ∧ j ≤ 1000000 then some (intsFrom i (j - i).toNat) else none
  | _ => none
def dSrc (g : List DV → Option (List DV)) (da : DA) : DA := fun σ h => (da σ h).bind fun ws h1 => ofO (g ws) h1
theorem int_of {K : PySem.W.Frag} {Hb : Hp} {ρ : List Addr} {Fr : Hp} {x : V} {i : Int} (r : RepT K Hb ρ Fr x (.int i)) : x = .int i := by
  cases r with
  | per r => cases r; rfl
theorem si_range1 {E : L2.St → XK} {c : Bool} {da : DA} {p : Pos} (hg : Gl X "range") (hm : X.mg "range" = none) (ha : SA X E [a] da) (hs : starEach [a] X.env = [(false, eval a X.env)] := by rfl) : SI X E c tg (.Call (.Name "range" p) [a] [] pos) (dSrc gRange1 da) :=
  (pi_range1 hg hm ha hs).weak fun s H Rr ⟨Hb, ρ, F0, Fr, σ, h, R, x, k⟩ => by
  refine ⟨Hb, ρ, F0, Fr, σ, h, R, x, (Rz.bind k).imp (fun ws h1 k => ?_) fun _ _ z => z⟩
  obtain ⟨rs, er, k⟩ := Rz.ofO k
  intro Hb1 ρ1 H1 vs s1 p1 R1 r1
  unfold gRange1 at er
  split at er
  · rename_i j
    by_cases hj : -1000000 ≤ j ∧ j ≤ 1000000
    · rw [if_pos hj] at er
      cases er
      cases r1 with
      | cons r rr =>
        cases rr
        cases int_of r
        exact ⟨j, rfl, by omega, by omega, k Hb1 ρ1 H1 _ _ s1 p1 R1 (src_range 0 j.toNat) trivial⟩
    · rw [if_neg hj] at er; cases er
  · cases er
theorem si_range2 {E : L2.St → XK} {c : Bool} {da : DA} {p : Pos} (hg : Gl X "range") (hm : X.mg "range" = none) (ha : SA X E [a, b] da) (hs : starEach [a, b] X.env = [(false, eval a X.env), (false, eval b X.env)] := by rfl) (hs2 : starEach [b] X.env = [(false, eval b X.env)] := by rfl) :
    SI X E c tg (.Call (.Name "range" p) [a, b] [] pos) (dSrc gRange2 da) := (pi_range2 hg hm ha hs hs2).weak fun s H Rr ⟨Hb, ρ, F0, Fr, σ, h, R, x, k⟩ => by
  refine ⟨Hb, ρ, F0, Fr, σ, h, R, x, (Rz.bind k).imp (fun ws h1 k => ?_) fun _ _ z => z⟩
  obtain ⟨rs, er, k⟩ := Rz.ofO k
  intro Hb1 ρ1 H1 vs s1 p1 R1 r1
  unfold gRange2 at er
  split at er
  · rename_i i j
    by_cases hj : -1000000 ≤ i ∧ i ≤ 1000000 ∧ -1000000 ≤ j ∧ j ≤ 1000000
    · rw [if_pos hj] at er
      cases er
      cases r1 with
      | cons r rr =>
        cases rr with
        | cons r' rr =>
          cases rr
          cases int_of r
          cases int_of r'
          exact ⟨i, j, rfl, by omega, k Hb1 ρ1 H1 _ _ s1 p1 R1 (src_range i (j - i).toNat) trivial⟩
    · rw [if_neg hj] at er; cases er
  · cases er
end
end DL
namespace DL
open PySem PySem.Spec PyProof.Rows L2

def cap : Nat := 100000
theorem cap_le {n : Nat} (h : n ≤ cap) : n ≤ sizeLine := Nat.le_trans h (by decide)
theorem cap_lt {n : Nat} (h : n < cap) : n < sizeLine := Nat.lt_of_lt_of_le h (by decide)
def le_cap (n : Nat) : Bool := decide (n ≤ cap)
def lt_cap (n : Nat) : Bool := decide (n < cap)
def dTup (da : DA) : DE := fun σ h => (da σ h).bind fun ws h1 => chk (heldAll ws) (chk (le_cap ws.length) (.ok (.tup ws) h1))
def dLst (da : DA) : DE := fun σ h => (da σ h).bind fun ws h1 => chk (heldAll ws) (chk (le_cap ws.length) (.ok (.lst ws) h1))
section
variable {K : PySem.W.Frag} {Hb : Hp} {ρ : List Addr} {Fr H : Hp} {h : DH}
theorem Rel.hb_fresh (R : Rel K Hb ρ Fr h H) {p : Addr} (hp : H p = none) : Hb p = none := Same.free R.sub hp
theorem Rel.fr_fresh (R : Rel K Hb ρ Fr h H) {p : Addr} (hp : H p = none) : Fr p = none := Same.free R.fr hp
theorem Rel.ρ_fresh (R : Rel K Hb ρ Fr h H) {p : Addr} (hp : H p = none) : ∀ (n : Nat) (a : Addr), ρ[n]? = some a → a ≠ p := fun n a e z => by
  subst z
  have hl : n < h.length := by rw [← R.len]; exact (List.getElem?_eq_some_iff.mp e).1
  obtain ⟨o, e2, _⟩ := (R.cell n a h[n] e (List.getElem?_eq_getElem hl)).some
  rw [hp] at e2; cases e2
theorem CellR.upd {a p : Addr} {c : HC} {o : HO} {Hb' : Hp} {ρ' : List Addr} (x : CellR K Hb ρ H a c) (hp : a ≠ p) (s : Same Hb Hb') (b : ρ <+: ρ') : CellR K Hb' ρ' (upd H p o) a c :=
  x.move s b fun u e => by rw [upd_ne hp]; exact e
theorem Rel.new (R : Rel K Hb ρ Fr h H) {p : Addr} (hp : H p = none) (o : HO) : Same Hb (upd Hb p o) ∧ Rel K (upd Hb p o) ρ Fr h (upd H p o) := by
  have hb := R.hb_fresh hp
  have s1 : Same Hb (upd Hb p o) := fun b u q => by rw [upd_ne (ne_of_none q hb)]; exact q
  refine ⟨s1, ⟨fun b u q => ?_, fun b u q => ?_, fun b u q => ?_, R.len, fun n a c e1 e2 => (R.cell n a c e1 e2).upd (R.ρ_fresh hp n a e1) s1 (List.prefix_refl _), fun n a e => ?_, R.inj, R.ft⟩⟩
  · by_cases e : b = p
    · subst e; rw [upd_same] at q ⊢; exact q
    · rw [upd_ne e] at q ⊢; exact R.sub b u q
  · rw [upd_ne (ne_of_none q (R.fr_fresh hp))]; exact R.fr b u q
  · rw [upd_ne (ne_of_none q (R.fr_fresh hp))]; exact R.ap b u q
  · obtain ⟨z1, z2⟩ := R.out n a e
    exact ⟨by rw [upd_ne (R.ρ_fresh hp n a e)]; exact z1, z2⟩
theorem ft_upd {Fr : Hp} {p : Addr} {o : HO} (f : ∀ a o, Fr a = some o → ∀ xs, o ≠ HO.tup xs) (ho : ∀ xs, o ≠ .tup xs) (b : Addr) (u : HO) (q : upd Fr p o b = some u) : ∀ xs, u ≠ .tup xs := by
  by_cases e : b = p
  · subst e; rw [upd_same] at q; cases q; exact ho
  · rw [upd_ne e] at q; exact f b u q
theorem Rel.lend (R : Rel K Hb ρ Fr h H) {p : Addr} (hp : H p = none) (o : HO) (ho : ∀ xs, o ≠ .tup xs := by intro xs z; exact nomatch z) : Rel K Hb ρ (upd Fr p o) h (upd H p o) := by
  have hb := R.hb_fresh hp
  refine ⟨fun b u q => ?_, fun b u q => ?_, fun b u q => ?_, R.len, fun n a c e1 e2 => (R.cell n a c e1 e2).upd (R.ρ_fresh hp n a e1) (Same.refl _) (List.prefix_refl _), fun n a e => ?_, R.inj, fun b u q => ft_upd R.ft ho b u q⟩
  · rw [upd_ne (ne_of_none q hb)]; exact R.sub b u q
  · by_cases e : b = p
    · subst e; rw [upd_same] at q ⊢; exact q
    · rw [upd_ne e] at q ⊢; exact R.fr b u q
  · by_cases e : b = p
    · subst e; exact hb
    · rw [upd_ne e] at q; exact R.ap b u q
  · obtain ⟨z1, z2⟩ := R.out n a e
    exact ⟨z1, by rw [upd_ne (R.ρ_fresh hp n a e)]; exact z2⟩
theorem Rel.write (R : Rel K Hb ρ Fr h H) {p : Addr} {u : HO} (hp : Fr p = some u) (o : HO) (ho : ∀ xs, o ≠ .tup xs := by intro xs z; exact nomatch z) : Rel K Hb ρ (upd Fr p o) h (upd H p o) := by
  have hb := R.ap p u hp
  have hρ : ∀ (n : Nat) (a : Addr), ρ[n]? = some a → a ≠ p := fun n a e z => by
    have := (R.out n a e).2
    rw [z, hp] at this; cases this
  refine ⟨fun b u q => ?_, fun b u q => ?_, fun b u q => ?_, R.len, fun n a c e1 e2 => (R.cell n a c e1 e2).upd (hρ n a e1) (Same.refl _) (List.prefix_refl _), fun n a e => ?_, R.inj, fun b u q => ft_upd R.ft ho b u q⟩
  · rw [upd_ne (ne_of_none q hb)]; exact R.sub b u q
  · by_cases e : b = p
    · subst e; rw [upd_same] at q ⊢; exact q
    · rw [upd_ne e] at q ⊢; exact R.fr b u q
  · by_cases e : b = p
    · subst e; exact hb
    · rw [upd_ne e] at q; exact R.ap b u q
  · obtain ⟨z1, z2⟩ := R.out n a e
    exact ⟨z1, by rw [upd_ne (hρ n a e)]; exact z2⟩
theorem Pst.new {Q : VK} {w : DV} (R : Rel K Hb ρ Fr h H) (k : Pst K Hb ρ Fr Q w h) {p : Addr} (hp : H p = none) {o : HO} (r : Rep K (upd Hb p o) ρ (.ref p) w) : Q (.ref p) (upd H p o) := by
  obtain ⟨s1, R1⟩ := R.new hp o
  exact k _ ρ _ _ s1 (List.prefix_refl _) R1 (.per r)
theorem rep_tup {p : Addr} {xs : List V} {ws : List DV} (hb : Hb p = none) (r : Reps K Hb ρ xs ws) : Rep K (upd Hb p (.tup xs)) ρ (.ref p) (.tup ws) :=
  .tup upd_same (r.mono (fun b u q => by rw [upd_ne (ne_of_none q hb)]; exact q) (List.prefix_refl _))
theorem rep_lst {p : Addr} {xs : List V} {ws : List DV} (hb : Hb p = none) (r : Reps K Hb ρ xs ws) : Rep K (upd Hb p (.lst xs)) ρ (.ref p) (.lst ws) :=
  .lst upd_same (r.mono (fun b u q => by rw [upd_ne (ne_of_none q hb)]; exact q) (List.prefix_refl _))
theorem Pst.tup {Q : VK} {ws : List DV} {xs : List V} (R : Rel K Hb ρ Fr h H) (k : Pst K Hb ρ Fr Q (.tup ws) h) (r : Reps K Hb ρ xs ws) (p : Addr) (hp : H p = none) : Q (.ref p) (upd H p (.tup xs)) := Pst.new R k hp (rep_tup (R.hb_fresh hp) r)
theorem Pst.lst {Q : VK} {ws : List DV} {xs : List V} (R : Rel K Hb ρ Fr h H) (k : Pst K Hb ρ Fr Q (.lst ws) h) (r : Reps K Hb ρ xs ws) (p : Addr) (hp : H p = none) : Q (.ref p) (upd H p (.lst xs)) := Pst.new R k hp (rep_lst (R.hb_fresh hp) r)
theorem Pst.same {Q : VK} {w : DV} {v : V} (R : Rel K Hb ρ Fr h H) (k : Pst K Hb ρ Fr Q w h) (r : RepT K Hb ρ Fr v w) : Q v H := k Hb ρ H v (Same.refl _) (List.prefix_refl _) R r
end

section
variable {X : Cx} {E : L2.St → XK} {es : List Expr} {pos : Pos} {da : DA}
theorem se_tup {x1} (ha : SA X E es da) : SE X E (.Tuple es x1 pos) (dTup da) := (pe_tup ha).weak fun s H Q ⟨Hb, ρ, F0, Fr, σ, h, R, x, k⟩ => by
  refine ⟨Hb, ρ, F0, Fr, σ, h, R, x, (Rz.bind k).imp (fun ws h1 k => ?_) fun _ _ z => z⟩
  obtain ⟨hw, k⟩ := Rz.chk k
  obtain ⟨hz, k⟩ := Rz.chk k
  intro Hb1 ρ1 H1 vs s1 p1 R1 r1
  have rr := r1.held hw
  exact ⟨by rw [rr.length]; exact cap_le (of_decide_eq_true hz), fun p hp => Pst.tup R1 (Pst.back s1 p1 _ _ k) rr p hp⟩
theorem se_lst (ha : SA X E es da) : SE X E (.List es pos) (dLst da) := (pe_lst ha).weak fun s H Q ⟨Hb, ρ, F0, Fr, σ, h, R, x, k⟩ => by
  refine ⟨Hb, ρ, F0, Fr, σ, h, R, x, (Rz.bind k).imp (fun ws h1 k => ?_) fun _ _ z => z⟩
  obtain ⟨hw, k⟩ := Rz.chk k
  obtain ⟨hz, k⟩ := Rz.chk k
  intro Hb1 ρ1 H1 vs s1 p1 R1 r1
  have rr := r1.held hw
  exact ⟨by rw [rr.length]; exact cap_le (of_decide_eq_true hz), fun p hp => Pst.lst R1 (Pst.back s1 p1 _ _ k) rr p hp⟩
end

def wipeD (σ : DSt) : List Nat → DSt
  | [] => σ
  | v :: vs => (wipeD σ vs).set v .un
def noX {α : Type} : Res α → Res α
  | .exc _ _ => .bad
  | r => r
theorem Rz.noX {α : Type} {ok : α → DH → Prop} {ex ex' : Str → DH → Prop} {r : Res α} (k : Rz ok ex (noX r)) : Rz ok ex' r := by
  cases r with
  | ok a h => exact k
  | exc c h => exact k.elim
  | bad => exact k
def loopC (tf : TF) (dt de : DE) (σ : DSt) : List DV → DH → Res (List DV)
  | [], h => .ok [] h
  | w :: ws, h => (ofO (tf w σ) h).bind fun σ1 h1 => (dt σ1 h1).bind fun b h2 => brB b ((de σ1 h2).bind fun x h3 => chk (held x) ((loopC tf dt de σ ws h3).bind fun r h4 => .ok (x :: r) h4)) (loopC tf dt de σ ws h2)
def dComp (src : DA) (tf : TF) (dt de : DE) (vs : List Nat) : DE := fun σ h => (src σ h).bind fun ws h1 => chk (le_cap ws.length) ((noX (loopC tf dt de (wipeD σ vs) ws h1)).bind fun rs h2 => .ok (.lst rs) h2)
theorem wipe_set {x : Option V} {j : Nat} : ∀ {vs : List Nat} {s : L2.St}, j ∈ vs → wipe (s.set j x) vs = wipe s vs
  | v :: vs, s, hj => by
    unfold wipe
    by_cases hm : j ∈ vs
    · rw [wipe_set hm]
    · have e : j = v := by
        rcases List.mem_cons.mp hj with e | e
        · exact e
        · exact absurd e hm
      subst e
      have q : ∀ {vs : List Nat}, j ∉ vs → wipe (s.set j x) vs = (wipe s vs).set j x := by
        intro vs
        induction vs with
        | nil => intro _; rfl
        | cons u us ih =>
          intro h
          have h1 : ¬ j = u := fun e => h (e ▸ List.mem_cons_self)
          unfold wipe
          rw [ih fun e => h (List.mem_cons_of_mem _ e), List.set_comm _ _ h1]
      rw [q hm, List.set_set]
theorem wipe_idem {vs : List Nat} {s : L2.St} : ∀ {us : List Nat}, (∀ u ∈ us, u ∈ vs) → wipe (wipe s us) vs = wipe s vs
  | [], _ => rfl
  | u :: us, h => by
    have e : wipe s (u :: us) = (wipe s us).set u none := rfl
    rw [e, wipe_set (h u List.mem_cons_self)]
    exact wipe_idem fun v hv => h v (List.mem_cons_of_mem _ hv)
theorem slots_wipe {K : PySem.W.Frag} {Hb : Hp} {ρ : List Addr} {F0 Fr : Hp} {σ : DSt} {s : L2.St} (x : Slots K Hb ρ F0 Fr σ s) : ∀ (vs : List Nat), Slots K Hb ρ F0 Fr (wipeD σ vs) (wipe s vs)
  | [] => x
  | v :: vs => by
    have y := slots_wipe x vs
    unfold wipeD wipe
    refine ⟨y.fr, fun j q e => ?_, by rw [List.length_set, List.length_set]; exact y.len, fun j k a ws zs e1 e2 e3 e4 => ?_⟩
    · by_cases hvj : v = j
      · subst hvj
        by_cases hl : v < (wipeD σ vs).length
        · rw [List.getElem?_set_self hl] at e; cases e; exact trivial
        · rw [List.getElem?_eq_none (by rw [List.length_set]; omega)] at e; cases e
      · rw [List.getElem?_set_ne hvj] at e ⊢
        exact y.at_ j q e
    · have g : ∀ {j : Nat} {ws : List DV}, ((wipeD σ vs).set v SV.un)[j]? = some (SV.own ws) → v ≠ j := fun {j ws} e z => by
        subst z
        by_cases hl : v < (wipeD σ vs).length
        · rw [List.getElem?_set_self hl] at e; cases e
        · rw [List.getElem?_eq_none (by rw [List.length_set]; omega)] at e; cases e
      have h1 := g e1
      have h2 := g e2
      rw [List.getElem?_set_ne h1] at e1 e3
      rw [List.getElem?_set_ne h2] at e2 e4
      exact y.sep j k a ws zs e1 e2 e3 e4
def GC (K : PySem.W.Frag) (g : TG) (tf : TF) (vs : List Nat) : Prop := ∀ (Hb : Hp) (ρ : List Addr) (F0 Fr : Hp) (σ σ' : DSt) (s : L2.St) (h : DH) (H : Hp) (v : V) (w : DV) (Q : L2.St → Hp → Prop), Rel K Hb ρ Fr h H → Slots K Hb ρ F0 Fr σ s → Rep K Hb ρ v w → tf w σ = some σ' →
  (∀ s', Slots K Hb ρ F0 Fr σ' s' → wipe s' vs = wipe s vs → Q s' H) → g v s H Q
theorem gc_name {K : PySem.W.Frag} {j : Nat} {vs : List Nat} (hj : j ∈ vs) : GC K (gName j) (tfN j) vs := fun Hb ρ F0 Fr σ σ' s h H v w Q R x r e q => by
  cases e
  exact q _ (slots_set x r) (wipe_set hj)
def GCs (K : PySem.W.Frag) (g : TGs) (tf : TFs) (vs : List Nat) : Prop := ∀ (Hb : Hp) (ρ : List Addr) (F0 Fr : Hp) (σ σ' : DSt) (s : L2.St) (h : DH) (H : Hp) (us : List V) (ws : List DV) (Q : L2.St → Hp → Prop), Rel K Hb ρ Fr h H → Slots K Hb ρ F0 Fr σ s → Reps K Hb ρ us ws → tf ws σ = some σ' →
  (∀ s', Slots K Hb ρ F0 Fr σ' s' → wipe s' vs = wipe s vs → Q s' H) → g us s H Q
theorem gcs_nil {K : PySem.W.Frag} {vs : List Nat} : GCs K gNil tfsNil vs := fun Hb ρ F0 Fr σ σ' s h H us ws Q R x r e q => by
  cases r with
  | nil => cases e; exact ⟨rfl, q s x rfl⟩
  | cons _ _ => cases e
theorem gcs_cons {K : PySem.W.Frag} {vs : List Nat} {g : TG} {gs : TGs} {t : TF} {u : TFs} (hg : GC K g t vs) (hs : GCs K gs u vs) : GCs K (gCons g gs) (tfsCons t u) vs := fun Hb ρ F0 Fr σ σ' s h H us ws Q R x r e q => by
  cases r with
  | nil => cases e
  | cons r1 rr =>
    unfold tfsCons at e
    obtain ⟨σ1, e1, e2⟩ := Option.bind_eq_some_iff.mp e
    exact ⟨_, _, rfl, hg Hb ρ F0 Fr σ σ1 s h H _ _ _ R x r1 e1 fun s1 x1 w1 => hs Hb ρ F0 Fr σ1 σ' s1 h H _ _ Q R x1 rr e2 fun s2 x2 w2 => q s2 x2 (w2.trans w1)⟩
theorem gc_tup {K : PySem.W.Frag} {vs : List Nat} {n : Nat} {gs : TGs} {u : TFs} (hs : GCs K gs u vs) : GC K (gTup K n gs) (tfT n u) vs := fun Hb ρ F0 Fr σ σ' s h H v w Q R x r e q => by
  cases r with
  | tup hq rr =>
    rename_i a xs ws
    have hq := SqT.of (K := K) hq
    have e : (if ws.length = n then u ws σ else none) = some σ' := e
    by_cases hn : ws.length = n
    · rw [if_pos hn] at e
      exact ⟨_, _, rfl, sqt_same R.sub hq, rr.length.trans hn, hs Hb ρ F0 Fr σ σ' s h H _ _ Q R x rr e q⟩
    · rw [if_neg hn] at e; cases e
  | _ => cases e
theorem slots_frame {K : PySem.W.Frag} {Hb : Hp} {ρ : List Addr} {F0 Fr Fr' : Hp} {σ : DSt} {s : L2.St} (f : Same Fr Fr') (x : Slots K Hb ρ F0 Fr σ s) : Slots K Hb ρ F0 Fr' σ s :=
  ⟨x.fr.trans f, fun i q e => by
    have y := x.at_ i q e
    cases q with
    | un => trivial
    | val w => exact y
    | own ws =>
      obtain ⟨a, xs, e1, f1, n1, r⟩ := y
      exact ⟨a, xs, e1, f _ _ f1, n1, r⟩
    | fdt m => exact y
    | fdx D m => exact y
    | dx D m =>
      obtain ⟨a, u, e1, f1, n1, r⟩ := y
      exact ⟨a, u, e1, f _ _ f1, n1, r⟩
    | dct m =>
      obtain ⟨a, u, e1, f1, n1, r⟩ := y
      exact ⟨a, u, e1, f _ _ f1, n1, r⟩, x.len, x.sep⟩
theorem same_lend {F : Hp} {p : Addr} {o : HO} (h : F p = none) : Same F (upd F p o) := fun b u q => by rw [upd_ne (ne_of_none q h)]; exact q
theorem same_write {F : Hp} {p : Addr} {o : HO} : ∀ {G : Hp}, Same G F → G p = none → Same G (upd F p o) := fun {G} s h b u q => by rw [upd_ne (ne_of_none q h)]; exact s b u q
theorem comp_run {K : PySem.W.Frag} {mg : Str → Option Value} {E : L2.St → XK} {src : DA} {tf : TF} {dt de : DE} {g : TG} {vs : List Nat} (hg : GC K g tf vs) {s : L2.St} {H : Hp} {Q : VK} (k : tD K mg E (dComp src tf dt de vs) s H Q) :
    tLc (tI K mg E true src) g (tT K mg (fun _ => E0) dt) (tD K mg (fun _ => E0) de) vs s H Q := by
  obtain ⟨Hb, ρ, F0, Fr, σ, h, R, x, k⟩ := k
  refine ⟨Hb, ρ, F0, Fr, σ, h, R, x, (Rz.bind k).imp (fun ws h1 k => ?_) fun _ _ z => z⟩
  obtain ⟨hz, k⟩ := Rz.chk k
  have k := Rz.noX (ex' := fun _ _ => False) ((Rz.bind k).imp (fun _ _ z => z) (fun _ _ z => z))
  have hz : ws.length ≤ cap := of_decide_eq_true hz
  intro Hb1 ρ1 H1 J Iv s1 p1 R1 S iv D hD
  rw [if_pos rfl] at iv
  have hF : Fr D = none := R1.fr_fresh hD
  refine ⟨fun i m H => m = ws.length - i ∧ i ≤ ws.length ∧ ∃ (Hb2 : Hp) (ρ2 : List Addr) (h : DH) (acc : List V) (ds : List DV), Same Hb1 Hb2 ∧ ρ1 <+: ρ2 ∧ Rel K Hb2 ρ2 (upd Fr D (.lst acc)) h H ∧ Hb2 D = none ∧ Reps K Hb2 ρ2 acc ds ∧ acc.length ≤ i ∧
      Rz (fun rs h' => Pst K Hb ρ Fr Q (.lst (ds ++ rs)) h') (fun _ _ => False) (loopC tf dt de (wipeD σ vs) (ws.drop i) h),
    ⟨ws.length, rfl, Nat.zero_le _, Hb1, ρ1, h1, [], [], Same.refl _, List.prefix_refl _, R1.lend hD (.lst []), R1.hb_fresh hD, .nil, Nat.zero_le _, by rw [List.drop_zero]; exact k⟩, ?_⟩
  rintro i m H2 ⟨rfl, hi, Hb2, ρ2, h2, acc, ds, s2, p2, R2, hD2, rd, hacc, k2⟩
  have iv2 : Iv Hb2 ρ2 Fr := S.mono _ _ _ _ _ s2 p2 iv
  have g2 : Same Fr (upd Fr D (.lst acc)) := same_lend hF
  by_cases hlt : i < ws.length
  · have hw : ws[i]? = some ws[i] := List.getElem?_eq_getElem hlt
    obtain ⟨hgo, hyl⟩ := S.go Hb2 ρ2 Fr _ h2 H2 i ws[i] iv2 g2 R2 hw
    refine .inr ⟨hgo, fun H' => i + 1 ≤ ws.length ∧ ∃ (Hb2 : Hp) (ρ2 : List Addr) (h : DH) (acc : List V) (ds : List DV), Same Hb1 Hb2 ∧ ρ1 <+: ρ2 ∧ Rel K Hb2 ρ2 (upd Fr D (.lst acc)) h H' ∧ Hb2 D = none ∧ Reps K Hb2 ρ2 acc ds ∧ acc.length ≤ i + 1 ∧
      Rz (fun rs h' => Pst K Hb ρ Fr Q (.lst (ds ++ rs)) h') (fun _ _ => False) (loopC tf dt de (wipeD σ vs) (ws.drop (i + 1)) h), fun H' z => ⟨ws.length - (i + 1), by omega, rfl, z⟩, fun v H3 y => ?_⟩
    obtain ⟨Hb3, s3, R3, r3⟩ := hyl v H3 y
    rw [List.drop_eq_getElem_cons hlt] at k2
    obtain ⟨σ', et, k2⟩ := Rz.ofO (Rz.bind k2)
    have k2 := Rz.bind k2
    have x3 : Slots K Hb3 ρ2 F0 (upd Fr D (.lst acc)) (wipeD σ vs) (wipe s vs) := slots_frame g2 ((slots_wipe ((x.mono s1 p1).mono (s2.trans s3) p2) vs))
    refine hg Hb3 ρ2 F0 _ _ σ' _ h2 H3 v ws[i] _ R3 x3 r3 et fun s' x' ew => ⟨ew.trans (wipe_idem fun _ z => z), ?_⟩
    refine ⟨Hb3, ρ2, F0, _, σ', h2, R3, x', k2.imp (fun b h3 k => ?_) fun _ _ z => z.elim⟩
    rcases Rz.brB k with ⟨eb, k⟩ | ⟨eb, k⟩
    · refine ⟨true, eb, fun Hb4 ρ4 H4 s4 p4 R4 => iteT ?_⟩
      refine ⟨Hb4, ρ4, F0, _, σ', h3, R4, x'.mono s4 p4, (Rz.bind k).imp (fun xw h4 k => ?_) fun _ _ z => z.elim⟩
      obtain ⟨hx, k⟩ := Rz.chk k
      intro Hb5 ρ5 H5 yv s5 p5 R5 r5
      have hD5 : Hb5 D = none := R5.ap D _ upd_same
      have r5' := r5.held hx
      refine ⟨acc, R5.fr D _ upd_same, cap_lt (by omega), hlt, Hb5, ρ5, h4, acc ++ [yv], ds ++ [xw], ((s2.trans s3).trans s4).trans s5, (p2.trans p4).trans p5, ?_, hD5, ?_, by rw [List.length_append]; exact Nat.succ_le_succ hacc, (Rz.bind k).imp (fun rs h5 k => ?_) fun _ _ z => z⟩
      · have := R5.write (p := D) upd_same (.lst (acc ++ [yv]))
        rw [upd_upd] at this
        exact this
      · exact ((rd.mono ((s3.trans s4).trans s5) (p4.trans p5))).append (.one r5')
      · rw [List.append_assoc]; exact k
    · refine ⟨false, eb, fun Hb4 ρ4 H4 s4 p4 R4 => iteF ?_⟩
      exact ⟨hlt, Hb4, ρ4, h3, acc, ds, (s2.trans s3).trans s4, p2.trans p4, R4, R4.ap D _ upd_same, rd.mono (s3.trans s4) p4, Nat.le_succ_of_le hacc, k⟩
  · have e : i = ws.length := by omega
    subst e
    refine .inl ⟨S.stop Hb2 ρ2 Fr _ h2 H2 iv2 g2 R2, ?_⟩
    rw [List.drop_length] at k2
    have k2 : Pst K Hb ρ Fr Q (.lst (ds ++ [])) h2 := k2
    rw [List.append_nil] at k2
    -- the list is held from now on
    have sH : Same Hb2 (upd Hb2 D (.lst acc)) := same_lend hD2
    refine k2 (upd Hb2 D (.lst acc)) ρ2 H2 (.ref D) ((s1.trans s2).trans sH) (p1.trans p2) ⟨fun b o q => ?_, fun b o q => ?_, fun b o q => ?_, R2.len, fun n a c e1 e2 => ?_, fun n a e => ?_, R2.inj, fun b o q => R2.ft b o (g2 b o q)⟩ (.per (.lst upd_same (rd.mono sH (List.prefix_refl _))))
    · by_cases hb : b = D
      · subst hb; rw [upd_same] at q; cases q; exact R2.fr _ _ upd_same
      · rw [upd_ne hb] at q; exact R2.sub b o q
    · exact R2.fr b o (g2 b o q)
    · rw [upd_ne (ne_of_none q hF)]; exact R2.ap b o (g2 b o q)
    · exact (R2.cell n a c e1 e2).mono sH (List.prefix_refl _)
    · obtain ⟨z1, z2⟩ := R2.out n a e
      have ha : a ≠ D := fun z => by subst z; rw [upd_same] at z2; cases z2
      rw [upd_ne ha] at z2 ⊢
      exact ⟨z1, z2⟩
section
variable {X : Cx} {E : L2.St → XK}
theorem se_comp {elt tg iter : Expr} {ifs : List Expr} {scope : Scope} {own : List (Str × Nat)} {pos : Pos} {src : DA} {g : TG} {tf : TF} {dt de : DE} {vs : List Nat} (hc : X.calm = true) (hN : X.N.Nodup) (hi : SI X E true tg iter src) (ok : BlkOk X.N X.env.scope scope own) (hv : own.map (·.2) = vs)
    (hg : ∀ (s : Shared) (H : Hp) (C : Addr) (cl : List (Str × Addr)) (fp : List Addr), PG (X.blk s H scope (compEnvC scope cl C X.env) fp) tg g) (gc : GC X.K g tf vs)
    (ht : ∀ (s : Shared) (H : Hp) (C : Addr) (cl : List (Str × Addr)) (fp : List Addr), PTs (X.blk s H scope (compEnvC scope cl C X.env) fp) ifs (tT X.K X.mg (fun _ => E0) dt))
    (he : ∀ (s : Shared) (H : Hp) (C : Addr) (cl : List (Str × Addr)) (fp : List Addr), SE (X.blk s H scope (compEnvC scope cl C X.env) fp) (fun _ => E0) elt de) (hs : ∀ x, foldedSetIterable iter X.env x = pure x := by intro _; rfl) :
    SE X E (.ListComp elt [⟨tg, iter, ifs, 0⟩] scope pos) (dComp src tf dt de vs) := by
  subst hv
  exact (pe_lc hc hN hi ok hg ht he hs).weak fun s H Q k => comp_run gc k
def dYes : DE := fun _ h => .ok (.bl true) h
theorem sts_nil {K : PySem.W.Frag} {mg : Str → Option Value} : PTs X [] (tT K mg E dYes) := ⟨fun pins s σ H Q I h => pts_nil.run pins s σ H Q I (by
  obtain ⟨Hb, ρ, F0, Fr, σ, h, R, x, b, e, k⟩ := h
  cases e
  exact k Hb ρ H (Same.refl _) (List.prefix_refl _) R)⟩
theorem sts_one {c : Expr} {d : DE} (h : ST X E c d) : PTs X [c] (tT X.K X.mg E d) := pts_one h
end
end DL
namespace DL
open PySem PySem.Spec PyProof.Rows L2

def setO (i : Nat) (ws : List DV) (σ : DSt) : DSt := σ.set i (.own ws)
def getO (σ : DSt) (i : Nat) : Option (List DV) := match σ[i]? with
  | some (.own ws) => some ws
  | _ => none
def dNewL (i : Nat) (da : DA) : DS := fun σ h => (da σ h).bind fun ws h1 => chk (heldAll ws) (chk (le_cap ws.length) (.ok (.next (setO i ws σ)) h1))
def dNewC (i : Nat) (da : DA) : DS := fun σ h => (da σ h).bind fun ws h1 => chk (heldAll ws) (chk (le_cap ws.length) (.ok (.next (setS i (.ref h1.length) σ)) (h1 ++ [.lst ws])))
def mutS (i : Nat) (f : List DV → Option (List DV)) (σ : DSt) (h : DH) : Res Fl := match σ[i]? with
  | some (.own ws) => match f ws with
    | some zs => .ok (.next (setO i zs σ)) h
    | none => .bad
  | some (.val (.ref n)) => match h[n]? with
    | some (.lst ws) => match f ws with
      | some zs => .ok (.next σ) (h.set n (.lst zs))
      | none => .bad
    | _ => .bad
  | _ => .bad
def gApp (w : DV) (ws : List DV) : Option (List DV) := if held w = true ∧ ws.length < cap then some (ws ++ [w]) else none
def gExt (w : DV) (ws : List DV) : Option (List DV) := match w with
  | .lst zs => if ws.length + zs.length ≤ cap then some (ws ++ zs) else none
  | _ => none
def one1 : List DV → Option DV
  | [w] => some w
  | _ => none
def isL (i : Nat) (σ : DSt) (h : DH) : Bool := match σ[i]? with
  | some (.own _) => true
  | some (.val (.ref n)) => match h[n]? with
    | some (.lst _) => true
    | _ => false
  | _ => false
def dMut (i : Nat) (g : DV → List DV → Option (List DV)) (da : DA) : DS := fun σ h => chk (isL i σ h) ((da σ h).bind fun ws h1 => (ofO (one1 ws) h1).bind fun w h2 => mutS i (g w) σ h2)

section
variable {K : PySem.W.Frag} {mg : Str → Option Value} {E : XK} {Hb : Hp} {ρ : List Addr} {F0 Fr : Hp} {σ : DSt} {s : L2.St} {h : DH} {H : Hp}
theorem slots_own {i : Nat} {ws : List DV} {a : Addr} {xs : List V} (x : Slots K Hb ρ F0 Fr σ s) (f : Fr a = some (.lst xs)) (n0 : F0 a = none) (sep : ∀ (j : Nat) (zs : List DV), i ≠ j → σ[j]? = some (.own zs) → s[j]? ≠ some (some (.ref a))) (r : Reps K Hb ρ xs ws) :
    Slots K Hb ρ F0 Fr (setO i ws σ) (s.set i (some (.ref a))) := by
  unfold setO
  refine ⟨x.fr, fun j q e => ?_, by rw [List.length_set, List.length_set]; exact x.len, fun j k b ws' zs e1 e2 e3 e4 => ?_⟩
  · by_cases hij : i = j
    · subst hij
      by_cases hl : i < σ.length
      · rw [List.getElem?_set_self hl] at e
        cases e
        exact ⟨a, xs, List.getElem?_set_self (by rw [← x.len]; exact hl), f, n0, r⟩
      · rw [List.getElem?_eq_none (by rw [List.length_set]; omega)] at e; cases e
    · rw [List.getElem?_set_ne hij] at e ⊢
      exact x.at_ j q e
  · by_cases h1 : i = j
    · by_cases h2 : i = k
      · exact h1.symm.trans h2
      · subst h1
        rw [List.getElem?_set_ne h2] at e2 e4
        by_cases hl : i < s.length
        · rw [List.getElem?_set_self hl] at e3
          cases e3
          exact absurd e4 (sep k zs h2 e2)
        · rw [List.getElem?_eq_none (by rw [List.length_set]; omega)] at e3; cases e3
    · by_cases h2 : i = k
      · subst h2
        rw [List.getElem?_set_ne h1] at e1 e3
        by_cases hl : i < s.length
        · rw [List.getElem?_set_self hl] at e4
          cases e4
          exact absurd e3 (sep j ws' h1 e1)
        · rw [List.getElem?_eq_none (by rw [List.length_set]; omega)] at e4; cases e4
      · rw [List.getElem?_set_ne h1] at e1 e3
        rw [List.getElem?_set_ne h2] at e2 e4
        exact x.sep j k b ws' zs e1 e2 e3 e4
theorem slots_fresh (R : Rel K Hb ρ Fr h H) (x : Slots K Hb ρ F0 Fr σ s) {p : Addr} (hp : H p = none) (j : Nat) (zs : List DV) (e : σ[j]? = some (.own zs)) : s[j]? ≠ some (some (.ref p)) := fun z => by
  obtain ⟨a, xs, e1, f, _, _⟩ := x.at_ j _ e
  rw [e1] at z
  have ea : a = p := by injection z with z; injection z with z; injection z
  have := R.fr a _ f
  rw [ea, hp] at this; cases this
theorem own_write {i : Nat} {a : Addr} {xs ys : List V} {ws zs : List DV} (R : Rel K Hb ρ Fr h H) (x : Slots K Hb ρ F0 Fr σ s) (e : σ[i]? = some (.own ws)) (es : s[i]? = some (some (.ref a))) (f : Fr a = some (.lst xs)) (n0 : F0 a = none) (r : Reps K Hb ρ ys zs) :
    Rel K Hb ρ (upd Fr a (.lst ys)) h (upd H a (.lst ys)) ∧ Slots K Hb ρ F0 (upd Fr a (.lst ys)) (setO i zs σ) s := by
  refine ⟨R.write f (.lst _), ?_⟩
  have hl : i < s.length := (List.getElem?_eq_some_iff.mp es).1
  have hs : s.set i (some (.ref a)) = s := by
    apply List.ext_getElem?
    intro j
    by_cases hij : i = j
    · subst hij; rw [List.getElem?_set_self hl]; exact es.symm
    · rw [List.getElem?_set_ne hij]
  have x1 : Slots K Hb ρ F0 (upd Fr a (.lst ys)) (setO i zs σ) s := by
    have hsep : ∀ (j : Nat) (us : List DV), i ≠ j → σ[j]? = some (.own us) → s[j]? ≠ some (some (.ref a)) := fun j us hij ej z => hij (x.sep i j a ws us e ej es z)
    refine ⟨fun b o q => ?_, fun j q ej => ?_, by unfold setO; rw [List.length_set]; exact x.len, fun j k b ws' us e1 e2 e3 e4 => ?_⟩
    · rw [upd_ne (fun z => by rw [z, n0] at q; cases q)]; exact x.fr b o q
    · unfold setO at ej
      by_cases hij : i = j
      · subst hij
        rw [List.getElem?_set_self (by rw [x.len]; exact hl)] at ej
        cases ej
        exact ⟨a, ys, es, upd_same, n0, r⟩
      · rw [List.getElem?_set_ne hij] at ej
        have y := x.at_ j q ej
        cases q with
        | un => trivial
        | val w => exact y
        | own us =>
          obtain ⟨b, zs', e1, f1, n1, r1⟩ := y
          have hb : b ≠ a := fun z => by subst z; exact hsep j us hij ej e1
          exact ⟨b, zs', e1, by rw [upd_ne hb]; exact f1, n1, r1⟩
        | fdt m => exact y
        | fdx D m => exact y
        | dx D m =>
          obtain ⟨b, u, e1, f1, n1, r1⟩ := y
          have hb : b ≠ a := fun z => by
            subst z
            rw [f] at f1
            exact D.no_lst r1 (Option.some.inj f1).symm
          exact ⟨b, u, e1, by rw [upd_ne hb]; exact f1, n1, r1⟩
        | dct m =>
          obtain ⟨b, u, e1, f1, n1, r1⟩ := y
          have hb : b ≠ a := fun z => by
            subst z
            rw [f] at f1
            exact r1.no_lst (Option.some.inj f1).symm
          exact ⟨b, u, e1, by rw [upd_ne hb]; exact f1, n1, r1⟩
    · unfold setO at e1 e2
      by_cases h1 : i = j
      · by_cases h2 : i = k
        · exact h1.symm.trans h2
        · subst h1
          rw [List.getElem?_set_ne h2] at e2
          rw [es] at e3
          cases e3
          exact absurd e4 (hsep k us h2 e2)
      · rw [List.getElem?_set_ne h1] at e1
        by_cases h2 : i = k
        · subst h2
          rw [es] at e4
          cases e4
          exact absurd e3 (hsep j ws' h1 e1)
        · rw [List.getElem?_set_ne h2] at e2
          exact x.sep j k b ws' us e1 e2 e3 e4
  exact x1
theorem cell_writeC {n : Nat} {a : Addr} {o : HO} {c0 : HC} (R : Rel K Hb ρ Fr h H) (ea : ρ[n]? = some a) (r : CellR K Hb ρ (upd H a o) a c0) : Rel K Hb ρ Fr (h.set n c0) (upd H a o) := by
  obtain ⟨o1, o2⟩ := R.out n a ea
  have hn : n < h.length := by rw [← R.len]; exact (List.getElem?_eq_some_iff.mp ea).1
  refine ⟨fun b u q => ?_, fun b u q => ?_, R.ap, by rw [List.length_set]; exact R.len, fun m b c e1 e2 => ?_, R.out, R.inj, R.ft⟩
  · rw [upd_ne (ne_of_none q o1)]; exact R.sub b u q
  · rw [upd_ne (ne_of_none q o2)]; exact R.fr b u q
  · by_cases hm : n = m
    · subst hm
      rw [ea] at e1
      cases e1
      rw [List.getElem?_set_self hn] at e2
      cases e2
      exact r
    · rw [List.getElem?_set_ne hm] at e2
      have hb : b ≠ a := fun z => by subst z; exact hm (R.inj n m b ea e1)
      exact (R.cell m b c e1 e2).upd hb (Same.refl _) (List.prefix_refl _)
theorem cell_write {n : Nat} {a : Addr} {ys : List V} {zs : List DV} (R : Rel K Hb ρ Fr h H) (ea : ρ[n]? = some a) (r : Reps K Hb ρ ys zs) : Rel K Hb ρ Fr (h.set n (.lst zs)) (upd H a (.lst ys)) :=
  cell_writeC R ea ⟨ys, upd_same, r⟩
theorem cell_newC {o : HO} {c0 : HC} {p : Addr} (R : Rel K Hb ρ Fr h H) (hp : H p = none) (r : CellR K Hb (ρ ++ [p]) (upd H p o) p c0) : Rel K Hb (ρ ++ [p]) Fr (h ++ [c0]) (upd H p o) := by
  have pre : ρ <+: ρ ++ [p] := List.prefix_append _ _
  have get : ∀ {n : Nat} {a : Addr}, (ρ ++ [p])[n]? = some a → (ρ[n]? = some a ∧ n < ρ.length) ∨ (n = ρ.length ∧ a = p) := fun {n a} e => by
    by_cases hl : n < ρ.length
    · rw [List.getElem?_append_left hl] at e; exact .inl ⟨e, hl⟩
    · rw [List.getElem?_append_right (by omega)] at e
      have hn : n - ρ.length < 1 := (List.getElem?_eq_some_iff.mp e).1
      have : n - ρ.length = 0 := by omega
      rw [this] at e
      cases e
      exact .inr ⟨by omega, rfl⟩
  refine ⟨fun b u q => ?_, fun b u q => ?_, R.ap, by rw [List.length_append, List.length_append, R.len]; rfl, fun n a c e1 e2 => ?_, fun n a e => ?_, fun n m a e1 e2 => ?_, R.ft⟩
  · rw [upd_ne (ne_of_none q (R.hb_fresh hp))]; exact R.sub b u q
  · rw [upd_ne (ne_of_none q (R.fr_fresh hp))]; exact R.fr b u q
  · rcases get e1 with ⟨e1, hl⟩ | ⟨hn, rfl⟩
    · rw [List.getElem?_append_left (by rw [← R.len]; exact hl)] at e2
      exact (R.cell n a c e1 e2).upd (R.ρ_fresh hp n a e1) (Same.refl _) pre
    · rw [List.getElem?_append_right (by rw [hn, R.len]; exact Nat.le_refl _), hn, R.len, Nat.sub_self] at e2
      cases e2
      exact r
  · rcases get e with ⟨e1, hl⟩ | ⟨hn, rfl⟩
    · exact R.out n a e1
    · exact ⟨R.hb_fresh hp, R.fr_fresh hp⟩
  · rcases get e1 with ⟨e1, h1⟩ | ⟨h1, rfl⟩
    · rcases get e2 with ⟨e2, h2⟩ | ⟨h2, ea⟩
      · exact R.inj n m a e1 e2
      · exact absurd ea (R.ρ_fresh hp n _ e1)
    · rcases get e2 with ⟨e2, h2⟩ | ⟨h2, ea⟩
      · exact absurd rfl (R.ρ_fresh hp m _ e2)
      · exact h1.trans h2.symm
theorem cell_new {xs : List V} {ws : List DV} {p : Addr} (R : Rel K Hb ρ Fr h H) (hp : H p = none) (r : Reps K Hb ρ xs ws) : Rel K Hb (ρ ++ [p]) Fr (h ++ [.lst ws]) (upd H p (.lst xs)) :=
  cell_newC R hp ⟨xs, upd_same, r.mono (Same.refl _) (List.prefix_append _ _)⟩
end
section
variable {X : Cx} {E : XK} {es : List Expr} {pos pos' p2 : Pos} {da : DA} {st : Stmt}
theorem ss_newL {i : Nat} {x : Str} (h : PS X (.Assign [.Name x pos'] (.List es p2) pos) (tAsg (tLst (tDs X.K X.mg (cE E) da)) (gName i))) : SS X E (.Assign [.Name x pos'] (.List es p2) pos) (dNewL i da) := h.weak fun D s H ⟨Hb, ρ, F0, Fr, σ, h, R, x, k⟩ => by
  refine ⟨Hb, ρ, F0, Fr, σ, h, R, x, (Rz.bind k).imp (fun ws h1 k => ?_) (Pex.lift x.fr)⟩
  obtain ⟨hw, k⟩ := Rz.chk k
  obtain ⟨hz, k⟩ := Rz.chk k
  intro Hb1 ρ1 H1 vs s1 p1 R1 r1
  have rr := r1.held hw
  refine ⟨by rw [rr.length]; exact cap_le (of_decide_eq_true hz), fun p hp => ?_⟩
  have x1 := x.mono s1 p1
  exact k Hb1 ρ1 (upd Fr p (.lst vs)) _ _ s1 p1 (R1.lend hp (.lst vs)) (slots_own (slots_frame (same_lend (R1.fr_fresh hp)) x1) upd_same (Same.free x1.fr (R1.fr_fresh hp)) (fun j zs _ e => slots_fresh R1 x1 hp j zs e) rr)
theorem ss_newC {i : Nat} {x : Str} (h : PS X (.Assign [.Name x pos'] (.List es p2) pos) (tAsg (tLst (tDs X.K X.mg (cE E) da)) (gName i))) : SS X E (.Assign [.Name x pos'] (.List es p2) pos) (dNewC i da) := h.weak fun D s H ⟨Hb, ρ, F0, Fr, σ, h, R, x, k⟩ => by
  refine ⟨Hb, ρ, F0, Fr, σ, h, R, x, (Rz.bind k).imp (fun ws h1 k => ?_) (Pex.lift x.fr)⟩
  obtain ⟨hw, k⟩ := Rz.chk k
  obtain ⟨hz, k⟩ := Rz.chk k
  intro Hb1 ρ1 H1 vs s1 p1 R1 r1
  have rr := r1.held hw
  refine ⟨by rw [rr.length]; exact cap_le (of_decide_eq_true hz), fun p hp => ?_⟩
  have pre : ρ1 <+: ρ1 ++ [p] := List.prefix_append _ _
  have x1 := (x.mono s1 p1).mono (Same.refl _) pre
  have e : (ρ1 ++ [p])[h1.length]? = some p := by rw [← R1.len, List.getElem?_append_right (Nat.le_refl _), Nat.sub_self]; rfl
  exact k Hb1 (ρ1 ++ [p]) Fr _ _ s1 (p1.trans pre) (cell_new R1 hp rr) (slots_set x1 (.ref e))
def MutD (X : Cx) (r : V → List V → Hp → VK → Prop) (g : DV → List DV → Option (List DV)) : Prop := ∀ (Hb : Hp) (ρ : List Addr) (Fr : Hp) (h : DH) (H : Hp) (a : Addr) (xs : List V) (ws zs : List DV) (y : V) (w : DV) (Q : VK), Rel X.K Hb ρ Fr h H → H a = some (.lst xs) → Reps X.K Hb ρ xs ws → RepT X.K Hb ρ Fr y w → g w ws = some zs →
  (∀ ys, Reps X.K Hb ρ ys zs → Q .non (upd H a (.lst ys))) → r (.ref a) [y] H Q
theorem md_app : MutD X rAppend gApp := fun Hb ρ Fr h H a xs ws zs y w Q R hH r ry e q => by
  unfold gApp at e
  by_cases hc : held w = true ∧ ws.length < cap
  · rw [if_pos hc] at e
    cases e
    exact ⟨a, xs, y, rfl, rfl, hH, by rw [r.length]; exact cap_lt hc.2, q _ (r.append (.one (ry.held hc.1)))⟩
  · rw [if_neg hc] at e; cases e
theorem md_ext : MutD X rExtend gExt := fun Hb ρ Fr h H a xs ws zs y w Q R hH r ry e q => by
  cases w with
  | lst us =>
    have e : (if ws.length + us.length ≤ cap then some (ws ++ us) else none) = some zs := e
    by_cases hc : ws.length + us.length ≤ cap
    · rw [if_pos hc] at e
      cases e
      cases ry with
      | per ry =>
        cases ry with
        | lst hq rr => exact ⟨a, _, xs, _, rfl, rfl, hH, R.sub _ _ hq, by rw [r.length, rr.length]; exact cap_le hc, q _ (r.append rr)⟩
    · rw [if_neg hc] at e; cases e
  | _ => cases e
theorem isL_at {K : PySem.W.Frag} {Hb : Hp} {ρ : List Addr} {F0 Fr : Hp} {σ : DSt} {s : L2.St} {h : DH} {H : Hp} {i : Nat} (R : Rel K Hb ρ Fr h H) (x : Slots K Hb ρ F0 Fr σ s) (e : isL i σ h = true) : ∃ a xs, s[i]? = some (some (.ref a)) ∧ H a = some (.lst xs) := by
  unfold isL at e
  cases eq : σ[i]? with
  | none => rw [eq] at e; cases e
  | some q =>
    rw [eq] at e
    have y := x.at_ i q eq
    cases q with
    | un => cases e
    | own ws =>
      obtain ⟨a, xs, e1, f, _, _⟩ := y
      exact ⟨a, xs, e1, R.fr _ _ f⟩
    | fdt m => cases e
    | dx D m => cases e
    | fdx D m => cases e
    | dct m => cases e
    | val w =>
      cases w with
      | ref n =>
        obtain ⟨v, e1, r⟩ := y
        cases r with
        | per r =>
          cases r with
          | ref ea =>
            rename_i a
            have e : (match h[n]? with | some (.lst _) => true | _ => false) = true := e
            cases eh : h[n]? with
            | none => rw [eh] at e; cases e
            | some c =>
              have z := R.cell n a c ea eh
              cases c with
              | lst ws =>
                obtain ⟨xs, q, _⟩ := z
                exact ⟨a, xs, e1, q⟩
              | obj _ _ => rw [eh] at e; cases e
              | own => rw [eh] at e; cases e
      | _ => cases e
theorem ss_mut {i : Nat} {r : V → List V → Hp → VK → Prop} {g : DV → List DV → Option (List DV)} (hd : MutD X r g) (h : PS X st (tDrop (tBM X.K "list" r (tVar i) (tDs X.K X.mg (cE E) da)))) : SS X E st (dMut i g da) := h.weak fun D s H ⟨Hb, ρ, F0, Fr, σ, h, R, x, k⟩ => by
  obtain ⟨hl, k⟩ := Rz.chk k
  obtain ⟨a, xs0, es, hH⟩ := isL_at R x hl
  refine ⟨.ref a, es, Or.inl ⟨rfl, _, SqL.of hH⟩, Hb, ρ, F0, Fr, σ, h, R, x, (Rz.bind k).imp (fun ws h1 k => ?_) (Pex.lift x.fr)⟩
  obtain ⟨w, ew, k⟩ := Rz.ofO (Rz.bind k)
  intro Hb1 ρ1 H1 vs s1 p1 R1 r1
  have x1 := x.mono s1 p1
  unfold mutS at k
  obtain ⟨y, rfl, ry⟩ : ∃ y, vs = [y] ∧ RepT X.K Hb1 ρ1 Fr y w := by
    cases r1 with
    | nil => cases ew
    | cons ra rb =>
      cases rb with
      | nil => cases ew; exact ⟨_, rfl, ra⟩
      | cons _ _ => cases ew
  cases eq : σ[i]? with
  | none => rw [eq] at k; exact k.elim
  | some q =>
    rw [eq] at k
    have y1 := x1.at_ i q eq
    cases q with
    | un => exact k.elim
    | fdt m => exact k.elim
    | dx D m => exact k.elim
    | fdx D m => exact k.elim
    | dct m => exact k.elim
    | own us =>
      obtain ⟨b, xs, e1, f, n0, ru⟩ := y1
      have eb : b = a := by rw [es] at e1; injection e1 with z; injection z with z; injection z with z; exact z.symm
      subst eb
      have k : Rz (PFl X.K Hb ρ F0 D) (Pex X.K X.mg Hb ρ F0 E) (match g w us with | some zs => .ok (.next (setO i zs σ)) h1 | none => .bad) := k
      cases eg : g w us with
      | none => rw [eg] at k; exact k.elim
      | some zs =>
        rw [eg] at k
        refine hd Hb1 ρ1 Fr h1 H1 b xs us zs y w _ R1 (R1.fr _ _ f) ru ry eg fun ys rys => ?_
        obtain ⟨R2, x2⟩ := own_write R1 x1 eq es f n0 rys
        exact k Hb1 ρ1 _ _ s s1 p1 R2 x2
    | val wv =>
      cases wv with
      | ref n =>
        obtain ⟨v, e1, rv⟩ := y1
        cases rv with
        | per rv =>
          cases rv with
          | ref ea =>
            rename_i b
            have eb : b = a := by rw [es] at e1; injection e1 with z; injection z with z; injection z with z; exact z.symm
            subst eb
            have k : Rz (PFl X.K Hb ρ F0 D) (Pex X.K X.mg Hb ρ F0 E) (match h1[n]? with
              | some (.lst ws) => match g w ws with
                | some zs => .ok (.next σ) (h1.set n (.lst zs))
                | none => .bad
              | _ => .bad) := k
            cases eh : h1[n]? with
            | none => rw [eh] at k; exact k.elim
            | some c =>
              rw [eh] at k
              have z := R1.cell n b c ea eh
              cases c with
              | lst us =>
                obtain ⟨xs, hq, ru⟩ := z
                have k : Rz (PFl X.K Hb ρ F0 D) (Pex X.K X.mg Hb ρ F0 E) (match g w us with | some zs => .ok (.next σ) (h1.set n (.lst zs)) | none => .bad) := k
                cases eg : g w us with
                | none => rw [eg] at k; exact k.elim
                | some zs =>
                  rw [eg] at k
                  refine hd Hb1 ρ1 Fr h1 H1 b xs us zs y w _ R1 hq ru ry eg fun ys rys => ?_
                  exact k Hb1 ρ1 Fr _ s s1 p1 (cell_write R1 ea rys) x1
              | obj _ _ => exact k.elim
              | own => exact k.elim
      | _ => exact k.elim
end

def finish (fl : Fl) (h : DH) : Res DV := match fl with
  | .next _ => .ok .non h
  | .ret w => .ok w h
  | _ => .bad
def runF (n m : Nat) (d : DS) : Fn := fun ws h => chk (ws.length == n) ((d (ws.map .val ++ List.replicate (m - ws.length) .un) h).bind finish)
theorem repTs_get {K : PySem.W.Frag} {Hb : Hp} {ρ : List Addr} {Fr : Hp} : ∀ {vs : List V} {ws : List DV} {i : Nat} {w : DV}, RepTs K Hb ρ Fr vs ws → ws[i]? = some w → ∃ v, vs[i]? = some v ∧ RepT K Hb ρ Fr v w
  | _, _, _, _, .nil, e => by simp at e
  | _, _, 0, _, .cons h _, e => by simp at e; subst e; exact ⟨_, rfl, h⟩
  | _, _, i + 1, w, .cons _ t, e => by
    obtain ⟨v, h1, h2⟩ := repTs_get (i := i) (w := w) t (by simpa using e)
    exact ⟨v, by simpa using h1, h2⟩
theorem slots_start {K : PySem.W.Frag} {Hb : Hp} {ρ : List Addr} {Fr : Hp} {vs : List V} {ws : List DV} {N : List Str} (r : RepTs K Hb ρ Fr vs ws) : Slots K Hb ρ Fr Fr (ws.map .val ++ List.replicate (N.length - ws.length) .un) (L2.start N vs) := by
  have hl := RepTs.length r
  have split : ∀ (i : Nat) (q : SV), (ws.map SV.val ++ List.replicate (N.length - ws.length) SV.un)[i]? = some q → (∃ w, ws[i]? = some w ∧ q = .val w) ∨ q = .un := fun i q e => by
    by_cases hi : i < ws.length
    · rw [List.getElem?_append_left (by rw [List.length_map]; exact hi), List.getElem?_map] at e
      cases ew : ws[i]? with
      | none => rw [ew] at e; cases e
      | some w => rw [ew] at e; cases e; exact .inl ⟨w, rfl, rfl⟩
    · rw [List.getElem?_append_right (by rw [List.length_map]; omega)] at e
      exact .inr (List.eq_of_mem_replicate (List.mem_of_getElem? e))
  refine ⟨Same.refl _, fun i q e => ?_, ?_, fun i j a us zs e1 _ _ _ => ?_⟩
  · rcases split i q e with ⟨w, ew, rfl⟩ | rfl
    · obtain ⟨v, ev, rv⟩ := repTs_get r ew
      refine ⟨v, ?_, rv⟩
      unfold L2.start
      rw [List.getElem?_append_left (by rw [List.length_map]; exact (List.getElem?_eq_some_iff.mp ev).1), List.getElem?_map, ev]
      rfl
    · trivial
  · unfold L2.start
    rw [List.length_append, List.length_append, List.length_map, List.length_map, List.length_replicate, List.length_replicate, hl]
  · rcases split i _ e1 with ⟨w, _, z⟩ | z <;> cases z
section
variable {P : Program} {w : World} {K : PySem.W.Frag} {mg : Str → Option Value} {base : Heap}
theorem fn_ok {x qual : Str} {st : Stmt} {f : Addr} {fd : FuncData} {N ps : List Str} {k n m : Nat} {d : DS} (F : L2.Fun K x qual st f fd) (S : FnScope N ps (defScope st)) (hn : ps.length = n) (hm : N.length = m)
    (body : ∀ (cdv : Value) (A : Around) (outer : List Env) (s : Shared) (H : Hp) (E : XK), Room k (A.deeper (envOfC qual (defScope st) s.heap.objs.size f cdv)) →
      SSs (cxOf (L2.CX P w) P w K mg base N qual (defScope st) f cdv A outer s H E) E (defBody st) d) :
    FnOk P w K mg base (L2.CX P w) (k + 1) f fd ps (spD K mg n (runF n m d)) := by
  subst hn hm
  refine F.okX S (fun vs H Q E h => h.1) fun cdv A outer s H vs Q E hr hsp => ⟨_, body cdv A outer s H E hr, ?_⟩
  obtain ⟨hl, Hb, ρ, Fr, h, ws, R, r, k⟩ := hsp
  obtain ⟨_, k⟩ := Rz.chk k
  refine ⟨Hb, ρ, Fr, Fr, _, h, R, slots_start r, (Rz.bind k).imp (fun fl h1 k => ?_) fun _ _ z => z⟩
  cases fl with
  | next σ => exact fun Hb' ρ' Fr' H' s' a b R' x' => k Hb' ρ' H' .non a b (R'.weak x'.fr) .non
  | ret v => exact k
  | brk σ => exact k.elim
  | cont σ => exact k.elim
theorem lets {N : List Str} {qual : Str} {sc : Scope} {f : Addr} {cdv : Value} {A : Around} {outer : List Env} {s : Shared} {H : Hp} {E : XK} (σ : L2.St) : PassesAt (L2.CX P w) (cxOf (L2.CX P w) P w K mg base N qual sc f cdv A outer s H E) σ E :=
  passAt (X := cxOf (L2.CX P w) P w K mg base N qual sc f cdv A outer s H E) (W := fun cls d _ H => E cls d H) (takes_of rfl rfl rfl rfl) σ
theorem lets0 {X : Cx} (σ : L2.St) : PassesAt (L2.CX X.prog X.w) X σ E0 := fun _ _ _ _ _ _ h => by
  obtain ⟨_, _, _, _, _, _, _, _, _, _, _, _, z⟩ := h
  exact z.elim
theorem goesOn {N : List Str} {qual : Str} {sc : Scope} {f : Addr} {cdv : Value} {A : Around} {outer : List Env} {s : Shared} {H : Hp} {E : XK} : PassesOwn (model P w) (A.deeper (envOfC qual sc s.heap.objs.size f cdv)) (envOfC qual sc s.heap.objs.size f cdv)
    (cxOf (L2.CX P w) P w K mg base N qual sc f cdv A outer s H E).xe := passes_of (X := cxOf (L2.CX P w) P w K mg base N qual sc f cdv A outer s H E) rfl
end
end DL
namespace DL
open PySem PySem.Spec PyProof.Rows L2

section
variable {K : PySem.W.Frag} {Hb : Hp} {ρ : List Addr} {Fr H : Hp} {h : DH}
theorem bl_of {x : V} {b : Bool} (r : RepT K Hb ρ Fr x (.bl b)) : x = .bl b := by
  cases r with
  | per r => cases r; rfl
theorem str_of {x : V} {b : Str} (r : RepT K Hb ρ Fr x (.str b)) : x = .str b := by
  cases r with
  | per r => cases r; rfl
theorem non_of {x : V} (r : RepT K Hb ρ Fr x .non) : x = .non := by
  cases r with
  | per r => cases r; rfl
theorem con_of {x v : V} (r : RepT K Hb ρ Fr x (.con v)) : x = v := by
  cases r with
  | per r => cases r; rfl
theorem tup_of {x : V} {ws : List DV} (R : Rel K Hb ρ Fr h H) (r : RepT K Hb ρ Fr x (.tup ws)) : ∃ a xs, x = .ref a ∧ SqT K H a xs ∧ Reps K Hb ρ xs ws := by
  cases r with
  | per r =>
    cases r with
    | tup hq rr => exact ⟨_, _, rfl, SqT.of (R.sub _ _ hq), rr⟩
theorem lst_of {x : V} {ws : List DV} (R : Rel K Hb ρ Fr h H) (r : RepT K Hb ρ Fr x (.lst ws)) : ∃ a xs, x = .ref a ∧ H a = some (.lst xs) ∧ Reps K Hb ρ xs ws := by
  cases r with
  | per r =>
    cases r with
    | lst hq rr => exact ⟨_, _, rfl, R.sub _ _ hq, rr⟩
theorem brw_of {x : V} {ws : List DV} (R : Rel K Hb ρ Fr h H) (r : RepT K Hb ρ Fr x (.brw ws)) : ∃ a xs, x = .ref a ∧ SqL K H a xs ∧ Reps K Hb ρ xs ws := by
  cases r with
  | per r => cases r
  | brw hq rr => exact ⟨_, _, rfl, sql_same R.fr hq, rr⟩
theorem seq_of {x : V} {w : DV} {ws : List DV} (R : Rel K Hb ρ Fr h H) (r : RepT K Hb ρ Fr x w) (e : seqOf w = some ws) : ∃ a xs, x = .ref a ∧ (SqL K H a xs ∨ SqT K H a xs) ∧ Reps K Hb ρ xs ws := by
  cases w with
  | tup us => cases e; obtain ⟨a, xs, e1, e2, e3⟩ := tup_of R r; exact ⟨a, xs, e1, .inr e2, e3⟩
  | lst us => cases e; obtain ⟨a, xs, e1, e2, e3⟩ := lst_of R r; exact ⟨a, xs, e1, .inl (SqL.of e2), e3⟩
  | brw us => cases e; obtain ⟨a, xs, e1, e2, e3⟩ := brw_of R r; exact ⟨a, xs, e1, .inl e2, e3⟩
  | _ => cases e
def lstOf : DV → Option (List DV)
  | .lst ws => some ws
  | .brw ws => some ws
  | _ => none
theorem lstR_of {x : V} {w : DV} {ws : List DV} (R : Rel K Hb ρ Fr h H) (r : RepT K Hb ρ Fr x w) (e : lstOf w = some ws) : ∃ a xs, x = .ref a ∧ SqL K H a xs ∧ Reps K Hb ρ xs ws := by
  cases w with
  | lst us => cases e; obtain ⟨a, xs, e1, e2, e3⟩ := lst_of R r; exact ⟨a, xs, e1, SqL.of e2, e3⟩
  | brw us => cases e; exact brw_of R r
  | _ => cases e
end

def gI (f : Int → Int → Option DV) : DV → DV → Option DV
  | .int i, .int j => f i j
  | _, _ => none
theorem gI_some {f : Int → Int → Option DV} {a b w : DV} (e : gI f a b = some w) : ∃ i j, a = .int i ∧ b = .int j ∧ f i j = some w := by
  unfold gI at e
  split at e
  · exact ⟨_, _, rfl, rfl, e⟩
  · cases e
section
variable {X : Cx}
theorem od_I0 {f : Int → Int → Int} : OpD X (rI0 fun i j => .int (f i j)) (gI fun i j => some (.int (f i j))) := fun Hb ρ Fr h H x y a b w Q R rx ry e k => by
  obtain ⟨i, j, rfl, rfl, e⟩ := gI_some e
  cases e
  exact ⟨i, j, int_of rx, int_of ry, Pst.same R k (.per (.int _))⟩
theorem od_B0 {f : Int → Int → Bool} : OpD X (rI0 fun i j => .bl (f i j)) (gI fun i j => some (.bl (f i j))) := fun Hb ρ Fr h H x y a b w Q R rx ry e k => by
  obtain ⟨i, j, rfl, rfl, e⟩ := gI_some e
  cases e
  exact ⟨i, j, int_of rx, int_of ry, Pst.same R k (.per (.bl _))⟩
theorem od_IC {C : Int → Int → Prop} [∀ i j, Decidable (C i j)] {f : Int → Int → Int} : OpD X (rI C fun i j => .int (f i j)) (gI fun i j => if C i j then some (.int (f i j)) else none) := fun Hb ρ Fr h H x y a b w Q R rx ry e k => by
  obtain ⟨i, j, rfl, rfl, e'⟩ := gI_some e
  by_cases hc : C i j
  · rw [if_pos hc] at e'
    cases e'
    exact ⟨i, j, int_of rx, int_of ry, hc, Pst.same R k (.per (.int _))⟩
  · rw [if_neg hc] at e'; cases e'
instance {i j : Int} : Decidable (CDiv i j) := by unfold CDiv; infer_instance
instance {i j : Int} : Decidable (CMul i j) := by unfold CMul; infer_instance
instance {i j : Int} : Decidable (CPow i j) := by unfold CPow; infer_instance
def gOr (g g' : DV → DV → Option DV) : DV → DV → Option DV := fun a b => match g a b with
  | some w => some w
  | none => g' a b
theorem od_or {r r' : R2} {g g' : DV → DV → Option DV} (h1 : OpD X r g) (h2 : OpD X r' g') : OpD X (fun x y H Q => r x y H Q ∨ r' x y H Q) (gOr g g') := fun Hb ρ Fr h H x y a b w Q R rx ry e k => by
  unfold gOr at e
  cases eg : g a b with
  | some w' => rw [eg] at e; cases e; exact .inl (h1 Hb ρ Fr h H x y a b w Q R rx ry eg k)
  | none => rw [eg] at e; exact .inr (h2 Hb ρ Fr h H x y a b w Q R rx ry e k)
def gCatT : DV → DV → Option DV
  | .tup ws, .tup zs => if ws.length + zs.length ≤ cap then some (.tup (ws ++ zs)) else none
  | _, _ => none
def gCatL : DV → DV → Option DV
  | .lst ws, .lst zs => if ws.length + zs.length ≤ cap then some (.lst (ws ++ zs)) else none
  | _, _ => none
def gCatS : DV → DV → Option DV
  | .str x, .str y => if x.length + y.length ≤ cap then some (.str (x ++ y)) else none
  | _, _ => none
theorem od_catT : OpD X (rCatA X.K) gCatT := fun Hb ρ Fr h H x y a b w Q R rx ry e k => by
  unfold gCatT at e
  split at e
  · rename_i ws zs
    by_cases hc : ws.length + zs.length ≤ cap
    · rw [if_pos hc] at e
      cases e
      obtain ⟨p, xs, e1, h1, r1⟩ := tup_of R rx
      obtain ⟨q, ys, e2, h2, r2⟩ := tup_of R ry
      refine ⟨p, q, xs, ys, e1, e2, h1, h2, by rw [r1.length, r2.length]; exact cap_le hc, fun hx => ?_, fun _ hy => ?_, fun _ _ c hp => Pst.tup R k (r1.append r2) c hp⟩
      · have : ws = [] := List.eq_nil_of_length_eq_zero (by rw [← r1.length, hx]; rfl)
        subst this
        rw [← e2]
        exact Pst.same R k ry
      · have : zs = [] := List.eq_nil_of_length_eq_zero (by rw [← r2.length, hy]; rfl)
        subst this
        rw [List.append_nil] at k
        rw [← e1]
        exact Pst.same R k rx
    · rw [if_neg hc] at e; cases e
  · cases e
theorem od_catL : OpD X rCat gCatL := fun Hb ρ Fr h H x y a b w Q R rx ry e k => by
  unfold gCatL at e
  split at e
  · rename_i ws zs
    by_cases hc : ws.length + zs.length ≤ cap
    · rw [if_pos hc] at e
      cases e
      obtain ⟨p, xs, e1, h1, r1⟩ := lst_of R rx
      obtain ⟨q, ys, e2, h2, r2⟩ := lst_of R ry
      exact ⟨p, q, xs, ys, e1, e2, h1, h2, by rw [r1.length, r2.length]; exact cap_le hc, fun c hp => Pst.lst R k (r1.append r2) c hp⟩
    · rw [if_neg hc] at e; cases e
  · cases e
theorem od_catS : OpD X (fun x y H Q => ∃ i j, x = .str i ∧ y = .str j ∧ i.length + j.length ≤ sizeLine ∧ Q (.str (i ++ j)) H) gCatS := fun Hb ρ Fr h H x y a b w Q R rx ry e k => by
  unfold gCatS at e
  split at e
  · rename_i i j
    by_cases hc : i.length + j.length ≤ cap
    · rw [if_pos hc] at e
      cases e
      exact ⟨i, j, str_of rx, str_of ry, cap_le hc, Pst.same R k (.per (.str _))⟩
    · rw [if_neg hc] at e; cases e
  · cases e
def gAdd : DV → DV → Option DV := gOr (gI fun i j => some (.int (i + j))) (gOr gCatT (gOr gCatL gCatS))
theorem oadd : ∃ r, OpR X (binaryOp .Add) r ∧ OpD X r gAdd := ⟨_, op_add.or (op_catA.or (op_cat.or op_add_str)), od_or od_I0 (od_or od_catT (od_or od_catL od_catS))⟩
def gSub : DV → DV → Option DV := gI fun i j => some (.int (i - j))
theorem osub : ∃ r, OpR X (binaryOp .Sub) r ∧ OpD X r gSub := ⟨_, op_sub, od_I0⟩
def gRepL : DV → DV → Option DV
  | .lst ws, .int k => if (0 ≤ k ∧ k ≤ 1000) ∧ ws.length ≤ 100 then some (.lst (List.replicate k.toNat ws).flatten) else none
  | _, _ => none
theorem len_flat {α : Type} (xs : List α) : ∀ n : Nat, (List.replicate n xs).flatten.length = n * xs.length
  | 0 => by simp
  | n + 1 => by
    rw [List.replicate_succ, List.flatten_cons, List.length_append, len_flat xs n]
    rw [Nat.succ_mul]; omega
theorem od_repL : OpD X rRep gRepL := fun Hb ρ Fr h H x y a b w Q R rx ry e k => by
  unfold gRepL at e
  split at e
  · rename_i ws j
    by_cases hc : (0 ≤ j ∧ j ≤ 1000) ∧ ws.length ≤ 100
    · rw [if_pos hc] at e
      cases e
      obtain ⟨p, xs, e1, h1, r1⟩ := lst_of R rx
      have hl : xs.length * j.toNat ≤ cap := by
        rw [r1.length]
        have h2 : j.toNat ≤ 1000 := by omega
        exact Nat.le_trans (Nat.mul_le_mul hc.2 h2) (by decide)
      exact ⟨p, j, xs, e1, int_of ry, h1, by omega, by omega, cap_le hl, fun c hp => Pst.lst R k (r1.flat _) c hp⟩
    · rw [if_neg hc] at e; cases e
  · cases e
def gRepT : DV → DV → Option DV
  | .tup ws, .int k => if ws ≠ [] ∧ (2 ≤ k ∧ k ≤ 1000) ∧ ws.length ≤ 1000 then some (.tup (List.replicate k.toNat ws).flatten) else none
  | _, _ => none
theorem od_repT : OpD X (rRepT X.K) gRepT := fun Hb ρ Fr h H x y a b w Q R rx ry e k => by
  unfold gRepT at e
  split at e
  · rename_i ws j
    by_cases hc : ws ≠ [] ∧ (2 ≤ j ∧ j ≤ 1000) ∧ ws.length ≤ 1000
    · rw [if_pos hc] at e
      cases e
      obtain ⟨p, xs, e1, h1, r1⟩ := tup_of R rx
      refine ⟨p, j, xs, e1, int_of ry, h1, fun z => hc.1 (List.eq_nil_of_length_eq_zero (by rw [← r1.length, z]; rfl)), hc.2.1.1, hc.2.1.2, by rw [r1.length]; exact hc.2.2, fun c hp => Pst.tup R k (r1.flat _) c hp⟩
    · rw [if_neg hc] at e; cases e
  · cases e
def gMul : DV → DV → Option DV := gOr (gI fun i j => if CMul i j then some (.int (i * j)) else none) (gOr gRepL gRepT)
theorem omul : ∃ r, OpR X (binaryOp .Mult) r ∧ OpD X r gMul := ⟨_, op_mul.or (op_rep.or op_repT), od_or od_IC (od_or od_repL od_repT)⟩
def gFdiv : DV → DV → Option DV := gI fun i j => if CDiv i j then some (.int (i / j)) else none
theorem ofdiv : ∃ r, OpR X (binaryOp .FloorDiv) r ∧ OpD X r gFdiv := ⟨_, op_fdiv, od_IC⟩
def gMod : DV → DV → Option DV := gI fun i j => if 0 < j then some (.int (i % j)) else none
theorem omod : ∃ r, OpR X (binaryOp .Mod) r ∧ OpD X r gMod := ⟨_, op_mod, od_IC⟩
def gPow : DV → DV → Option DV := gI fun i j => if CPow i j then some (.int (i ^ j.toNat)) else none
theorem opow : ∃ r, OpR X (binaryOp .Pow) r ∧ OpD X r gPow := ⟨_, op_pow, od_IC⟩
def gNeg : DV → Option DV
  | .int i => some (.int (-i))
  | _ => none
theorem ud_neg : UnD X (rU fun i => .int (-i)) gNeg := fun Hb ρ Fr h H x a w Q R rx e k => by
  unfold gNeg at e
  split at e
  · cases e; exact ⟨_, int_of rx, Pst.same R k (.per (.int _))⟩
  · cases e
def gLt : DV → DV → Option DV := gI fun i j => some (.bl (decide (i < j)))
def gLe : DV → DV → Option DV := gI fun i j => some (.bl (decide (i ≤ j)))
def gGt : DV → DV → Option DV := gI fun i j => some (.bl (decide (j < i)))
def gGe : DV → DV → Option DV := gI fun i j => some (.bl (decide (j ≤ i)))
theorem olt : ∃ r, OpR X (compareOp .Lt) r ∧ OpD X r gLt := ⟨_, op_lt, od_B0⟩
theorem ole : ∃ r, OpR X (compareOp .LtE) r ∧ OpD X r gLe := ⟨_, op_le, od_B0⟩
theorem ogt : ∃ r, OpR X (compareOp .Gt) r ∧ OpD X r gGt := ⟨_, op_gt, od_B0⟩
theorem oge : ∃ r, OpR X (compareOp .GtE) r ∧ OpD X r gGe := ⟨_, op_ge, od_B0⟩
def gIsB : DV → DV → Option DV
  | .bl a, .bl b => some (.bl (decide (a = b)))
  | _, _ => none
def gIsNB : DV → DV → Option DV
  | .bl a, .bl b => some (.bl (!decide (a = b)))
  | _, _ => none
def isNon : DV → Bool
  | .non => true
  | _ => false
def noCon : DV → Bool
  | .con _ => false
  | _ => true
def gIsN : DV → DV → Option DV := fun a b => if isNon b = true ∧ noCon a = true then some (.bl (isNon a)) else none
def gIsNN : DV → DV → Option DV := fun a b => if isNon b = true ∧ noCon a = true then some (.bl (!isNon a)) else none
theorem od_isB : OpD X (fun x y H Q => ∃ a b, x = .bl a ∧ y = .bl b ∧ Q (.bl (decide (a = b))) H) gIsB := fun Hb ρ Fr h H x y a b w Q R rx ry e k => by
  unfold gIsB at e
  split at e
  · cases e; exact ⟨_, _, bl_of rx, bl_of ry, Pst.same R k (.per (.bl _))⟩
  · cases e
theorem od_isNB : OpD X (fun x y H Q => ∃ a b, x = .bl a ∧ y = .bl b ∧ Q (.bl (!decide (a = b))) H) gIsNB := fun Hb ρ Fr h H x y a b w Q R rx ry e k => by
  unfold gIsNB at e
  split at e
  · cases e; exact ⟨_, _, bl_of rx, bl_of ry, Pst.same R k (.per (.bl _))⟩
  · cases e
theorem isNon_dec {K : PySem.W.Frag} {Hb : Hp} {ρ : List Addr} {Fr : Hp} {x : V} {a : DV} (r : RepT K Hb ρ Fr x a) (hc : noCon a = true) : decide (x = .non) = isNon a := by
  cases r with
  | per r => cases r <;> first | (cases hc; done) | rfl | (exact decide_eq_false (fun z => by cases z))
  | brw _ _ => exact decide_eq_false (fun z => nomatch z)
theorem isNon_eq {b : DV} (h : isNon b = true) : b = .non := by cases b <;> first | rfl | cases h
theorem od_isN : OpD X (fun x y H Q => y = .non ∧ Q (.bl (decide (x = .non))) H) gIsN := fun Hb ρ Fr h H x y a b w Q R rx ry e k => by
  unfold gIsN at e
  by_cases hc : isNon b = true ∧ noCon a = true
  · rw [if_pos hc] at e
    cases e
    have eb := isNon_eq hc.1
    subst eb
    exact ⟨non_of ry, by rw [isNon_dec rx hc.2]; exact Pst.same R k (.per (.bl _))⟩
  · rw [if_neg hc] at e; cases e
theorem od_isNN : OpD X (fun x y H Q => y = .non ∧ Q (.bl (!decide (x = .non))) H) gIsNN := fun Hb ρ Fr h H x y a b w Q R rx ry e k => by
  unfold gIsNN at e
  by_cases hc : isNon b = true ∧ noCon a = true
  · rw [if_pos hc] at e
    cases e
    have eb := isNon_eq hc.1
    subst eb
    exact ⟨non_of ry, by rw [isNon_dec rx hc.2]; exact Pst.same R k (.per (.bl _))⟩
  · rw [if_neg hc] at e; cases e
def gIs : DV → DV → Option DV := gOr gIsB gIsN
def gIsNot : DV → DV → Option DV := gOr gIsNB gIsNN
theorem ois : ∃ r, OpR X (compareOp .Is) r ∧ OpD X r gIs := ⟨_, op_is_bl.or op_isN, od_or od_isB od_isN⟩
theorem oisnot : ∃ r, OpR X (compareOp .IsNot) r ∧ OpD X r gIsNot := ⟨_, op_isnot_bl.or op_notN, od_or od_isNB od_isNN⟩
mutual
def toPy : DV → Option PyData
  | .non => some .none
  | .bl b => some (.bool b)
  | .int i => some (.int i)
  | .str x => some (.str x)
  | .tup ws => (toPys ws).map .tuple
  | .lst ws => (toPys ws).map .list
  | .brw ws => (toPys ws).map .list
  | .ref _ => none
  | .con _ => none
def toPys : List DV → Option (List PyData)
  | [] => some []
  | w :: ws => (toPy w).bind fun d => (toPys ws).map fun ds => d :: ds
end
mutual
theorem dp_of {K : PySem.W.Frag} {Hb : Hp} {ρ : List Addr} {Fr H : Hp} {h : DH} (R : Rel K Hb ρ Fr h H) : ∀ {w : DV} {v : V} {d : PyData}, Rep K Hb ρ v w → toPy w = some d → Dp K H v d
  | .non, _, _, r, e => by cases r; cases e; exact .non
  | .bl b, _, _, r, e => by cases r; cases e; exact .bl b
  | .int i, _, _, r, e => by cases r; cases e; exact .int i
  | .str x, _, _, r, e => by cases r; cases e; exact .str x
  | .tup ws, _, _, r, e => by
    cases r with
    | tup hq rr =>
      unfold toPy at e
      obtain ⟨ds, e1, e2⟩ := Option.map_eq_some_iff.mp e
      subst e2
      exact .tup (SqT.of (R.sub _ _ hq)) (dps_of R rr e1)
  | .lst ws, _, _, r, e => by
    cases r with
    | lst hq rr =>
      unfold toPy at e
      obtain ⟨ds, e1, e2⟩ := Option.map_eq_some_iff.mp e
      subst e2
      exact .lst (SqL.of (R.sub _ _ hq)) (dps_of R rr e1)
  | .brw ws, _, _, r, e => by cases r
  | .ref n, _, _, r, e => by cases e
  | .con v, _, _, r, e => by cases e
theorem dps_of {K : PySem.W.Frag} {Hb : Hp} {ρ : List Addr} {Fr H : Hp} {h : DH} (R : Rel K Hb ρ Fr h H) : ∀ {ws : List DV} {vs : List V} {ds : List PyData}, Reps K Hb ρ vs ws → toPys ws = some ds → DpAll K H vs ds
  | [], _, _, r, e => by cases r; cases e; exact .nil
  | w :: ws, _, _, r, e => by
    cases r with
    | cons r1 rr =>
      unfold toPys at e
      obtain ⟨d, e1, e⟩ := Option.bind_eq_some_iff.mp e
      obtain ⟨ds, e2, e⟩ := Option.map_eq_some_iff.mp e
      subst e
      exact .cons (dp_of R r1 e1) (dps_of R rr e2)
end
theorem dpT_of {K : PySem.W.Frag} {Hb : Hp} {ρ : List Addr} {Fr H : Hp} {h : DH} (R : Rel K Hb ρ Fr h H) {w : DV} {v : V} {d : PyData} (r : RepT K Hb ρ Fr v w) (e : toPy w = some d) : Dp K H v d := by
  cases r with
  | per r => exact dp_of R r e
  | brw hq rr =>
    unfold toPy at e
    obtain ⟨ds, e1, e2⟩ := Option.map_eq_some_iff.mp e
    subst e2
    exact .lst (sql_same R.fr hq) (dps_of R rr e1)
def pyOf (w : DV) : Option PyData := (toPy w).bind fun d => if SeqAt.shaped d = true then some d else none
def gEq : DV → DV → Option DV := fun a b => (pyOf a).bind fun d => (pyOf b).map fun e => .bl (PyData.eqv d e)
def gNe : DV → DV → Option DV := fun a b => (pyOf a).bind fun d => (pyOf b).map fun e => .bl (!PyData.eqv d e)
theorem pyOf_some {w : DV} {d : PyData} (e : pyOf w = some d) : toPy w = some d ∧ SeqAt.shaped d = true := by
  unfold pyOf at e
  obtain ⟨d', e1, e⟩ := Option.bind_eq_some_iff.mp e
  by_cases hs : SeqAt.shaped d' = true
  · rw [if_pos hs] at e; cases e; exact ⟨e1, hs⟩
  · rw [if_neg hs] at e; cases e
theorem oeq (hu : X.A.units + 64 < cLine) : ∃ r, OpR X (compareOp .Eq) r ∧ OpD X r gEq := ⟨_, op_eqD hu, fun Hb ρ Fr h H x y a b w Q R rx ry e k => by
  unfold gEq at e
  obtain ⟨d, e1, e⟩ := Option.bind_eq_some_iff.mp e
  obtain ⟨d', e2, e⟩ := Option.map_eq_some_iff.mp e
  subst e
  obtain ⟨t1, s1⟩ := pyOf_some e1
  obtain ⟨t2, s2⟩ := pyOf_some e2
  exact ⟨d, d', dpT_of R rx t1, dpT_of R ry t2, s1, s2, Pst.same R k (.per (.bl _))⟩⟩
theorem one (hu : X.A.units + 64 < cLine) : ∃ r, OpR X (compareOp .NotEq) r ∧ OpD X r gNe := ⟨_, op_neD hu, fun Hb ρ Fr h H x y a b w Q R rx ry e k => by
  unfold gNe at e
  obtain ⟨d, e1, e⟩ := Option.bind_eq_some_iff.mp e
  obtain ⟨d', e2, e⟩ := Option.map_eq_some_iff.mp e
  subst e
  obtain ⟨t1, s1⟩ := pyOf_some e1
  obtain ⟨t2, s2⟩ := pyOf_some e2
  exact ⟨d, d', dpT_of R rx t1, dpT_of R ry t2, s1, s2, Pst.same R k (.per (.bl _))⟩⟩
def gIn : DV → DV → Option DV := fun a b => (pyOf a).bind fun d => (lstOf b).bind fun _ => (pyOf b).bind fun e => match e with
  | .list ds => some (.bl (ds.any fun z => PyData.eqv z d))
  | _ => none
def gNotIn : DV → DV → Option DV := fun a b => (pyOf a).bind fun d => (lstOf b).bind fun _ => (pyOf b).bind fun e => match e with
  | .list ds => some (.bl (!ds.any fun z => PyData.eqv z d))
  | _ => none
theorem oin (hu : X.A.units + 65 < cLine) : ∃ r, OpR X (compareOp .In) r ∧ OpD X r gIn := ⟨_, op_inD hu, fun Hb ρ Fr h H x y a b w Q R rx ry e k => by
  unfold gIn at e
  obtain ⟨d, e1, e⟩ := Option.bind_eq_some_iff.mp e
  obtain ⟨_, _, e⟩ := Option.bind_eq_some_iff.mp e
  obtain ⟨d', e2, e⟩ := Option.bind_eq_some_iff.mp e
  obtain ⟨t1, s1⟩ := pyOf_some e1
  obtain ⟨t2, s2⟩ := pyOf_some e2
  split at e
  · cases e
    exact ⟨d, _, dpT_of R rx t1, dpT_of R ry t2, s1, s2, Pst.same R k (.per (.bl _))⟩
  · cases e⟩
theorem onotin (hu : X.A.units + 65 < cLine) : ∃ r, OpR X (compareOp .NotIn) r ∧ OpD X r gNotIn := ⟨_, op_notInD hu, fun Hb ρ Fr h H x y a b w Q R rx ry e k => by
  unfold gNotIn at e
  obtain ⟨d, e1, e⟩ := Option.bind_eq_some_iff.mp e
  obtain ⟨_, _, e⟩ := Option.bind_eq_some_iff.mp e
  obtain ⟨d', e2, e⟩ := Option.bind_eq_some_iff.mp e
  obtain ⟨t1, s1⟩ := pyOf_some e1
  obtain ⟨t2, s2⟩ := pyOf_some e2
  split at e
  · cases e
    exact ⟨d, _, dpT_of R rx t1, dpT_of R ry t2, s1, s2, Pst.same R k (.per (.bl _))⟩
  · cases e⟩
def gIx : DV → DV → Option DV := fun a b => match b with
  | .int i => (seqOf a).bind fun ws => atI ws i
  | _ => none
theorem atI_rep {K : PySem.W.Frag} {Hb : Hp} {ρ : List Addr} {xs : List V} {ws : List DV} {i : Int} {w : DV} (r : Reps K Hb ρ xs ws) (e : atI ws i = some w) : ∃ v, atI xs i = some v ∧ Rep K Hb ρ v w := by
  unfold atI at e ⊢
  rw [r.length]
  obtain ⟨j, e1, e2⟩ := Option.bind_eq_some_iff.mp e
  obtain ⟨v, e3, rv⟩ := r.get e2
  exact ⟨v, by rw [e1]; exact e3, rv⟩
theorem oix : ∃ r, IxR X r ∧ OpD X r gIx := ⟨_, ix_list.or ix_tup, fun Hb ρ Fr h H x y a b w Q R rx ry e k => by
  unfold gIx at e
  split at e
  · rename_i i
    obtain ⟨ws, e1, e⟩ := Option.bind_eq_some_iff.mp e
    obtain ⟨p, xs, ex, hq, rr⟩ := seq_of R rx e1
    obtain ⟨v, e3, rv⟩ := atI_rep rr e
    have g := Pst.same R k (.per rv)
    rcases hq with hq | hq
    · exact .inl ⟨p, xs, i, v, ex, int_of ry, hq, e3, g⟩
    · exact .inr ⟨p, xs, i, v, ex, int_of ry, hq, e3, g⟩
  · cases e⟩
end
end DL
namespace DL
open PySem PySem.Spec PyProof.Rows L2

def dChain (g g' : DV → DV → Option DV) (da db dc : DE) : DE := fun σ h => (da σ h).bind fun a h1 => (db σ h1).bind fun b h2 => (ofO (g a b) h2).bind fun t h3 => brB t ((dc σ h3).bind fun c h4 => ofO (g' b c) h4) (.ok (.bl false) h3)
section
variable {X : Cx} {E : L2.St → XK} {e a b c : Expr} {es : List Expr} {pos : Pos} {d da db dc : DE} {g g' : DV → DV → Option DV}
theorem chain_run {r r' : R2} (hd : OpD X r g) (hd' : OpD X r' g') {s : L2.St} {H : Hp} {Q : VK} (h : tD X.K X.mg E (dChain g g' da db dc) s H Q) : tChain r r' (tD X.K X.mg E da) (tD X.K X.mg E db) (tD X.K X.mg E dc) s H Q := by
  obtain ⟨Hb, ρ, F0, Fr, σ, h, R, x, k⟩ := h
  refine ⟨Hb, ρ, F0, Fr, σ, h, R, x, (Rz.bind k).imp (fun wa h1 k => ?_) fun _ _ z => z⟩
  intro Hb1 ρ1 H1 v1 s1 p1 R1 r1
  refine ⟨Hb1, ρ1, F0, Fr, σ, h1, R1, x.mono s1 p1, (Rz.bind k).imp (fun wb h2 k => ?_) (Pex.back s1 p1)⟩
  obtain ⟨t, et, k⟩ := Rz.ofO (Rz.bind k)
  intro Hb2 ρ2 H2 v2 s2 p2 R2 r2
  rcases Rz.brB k with ⟨e1, k⟩ | ⟨e1, k⟩
  · subst e1
    refine hd Hb2 ρ2 Fr h2 H2 v1 v2 wa wb _ _ R2 (r1.mono s2 p2 (Same.refl _)) r2 et (Pst.bl fun Hb3 ρ3 H3 s3 p3 R3 => ⟨true, rfl, iteT ?_⟩)
    refine ⟨Hb3, ρ3, F0, Fr, σ, h2, R3, ((x.mono s1 p1).mono s2 p2).mono s3 p3, (Rz.bind k).imp (fun wc h3 k => ?_) (Pex.back ((s1.trans s2).trans s3) ((p1.trans p2).trans p3))⟩
    obtain ⟨w, ew, k⟩ := Rz.ofO k
    intro Hb4 ρ4 H4 v4 s4 p4 R4 r4
    exact hd' Hb4 ρ4 Fr h3 H4 v2 v4 wb wc w Q R4 (r2.mono (s3.trans s4) (p3.trans p4) (Same.refl _)) r4 ew (Pst.back (((s1.trans s2).trans s3).trans s4) (((p1.trans p2).trans p3).trans p4) _ _ k)
  · subst e1
    refine hd Hb2 ρ2 Fr h2 H2 v1 v2 wa wb _ _ R2 (r1.mono s2 p2 (Same.refl _)) r2 et (Pst.bl fun Hb3 ρ3 H3 s3 p3 R3 => ⟨false, rfl, iteF ?_⟩)
    exact k Hb3 ρ3 H3 _ ((s1.trans s2).trans s3) ((p1.trans p2).trans p3) R3 (.per (.bl false))
theorem se_chain {op op' : CmpOp} {r r' : R2} (ho : OpR X (compareOp op) r) (hd : OpD X r g) (ho' : OpR X (compareOp op') r') (hd' : OpD X r' g') (ha : SE X E a da) (hb : SE X E b db) (hc : SE X E c dc) (hm : lastMarks [op, op'] [b, c] = false := by with_unfolding_all rfl) :
    SE X E (.Compare a [op, op'] [b, c] pos) (dChain g g' da db dc) := (pe_chain ho ho' ha hb hc hm).weak fun s H Q h => chain_run hd hd' h
theorem st_chain {op op' : CmpOp} {r r' : R2} (ho : OpR X (compareOp op) r) (hd : OpD X r g) (ho' : OpR X (compareOp op') r') (hd' : OpD X r' g') (ha : SE X E a da) (hb : SE X E b db) (hc : SE X E c dc) (hm : lastMarks [op, op'] [b, c] = false := by with_unfolding_all rfl) :
    ST X E (.Compare a [op, op'] [b, c] pos) (dChain g g' da db dc) := (pt_chain ho ho' ha hb hc hm).weak fun s H Q h => chain_run hd hd' (tT_run h)
abbrev DO := DSt → DH → Res (Option Int)
def tOD (K : PySem.W.Frag) (mg : Str → Option Value) (E : L2.St → XK) (d : DO) : TO := fun s H Q => ∃ (Hb : Hp) (ρ : List Addr) (F0 Fr : Hp) (σ : DSt) (h : DH), Rel K Hb ρ Fr h H ∧ Slots K Hb ρ F0 Fr σ s ∧
  Rz (fun o h' => ∀ (Hb' : Hp) (ρ' : List Addr) (H' : Hp), Same Hb Hb' → ρ <+: ρ' → Rel K Hb' ρ' Fr h' H' → Q o H') (Pex K mg Hb ρ Fr (E s)) (d σ h)
abbrev SO (X : Cx) (E : L2.St → XK) (e : Option Expr) (d : DO) : Prop := PO X e (tOD X.K X.mg E d)
theorem _root_.L2.PO.weak {X : Cx} {e : Option Expr} {t t' : TO} (h : PO X e t) (w : ∀ s H Q, t' s H Q → t s H Q) : PO X e t' := ⟨fun pins s σ H Q I q => h.run pins s σ H Q I (w σ H Q q)⟩
def doN : DO := fun _ h => .ok none h
def asI : DV → Option Int
  | .int i => some i
  | _ => none
def doS (d : DE) : DO := fun σ h => (d σ h).bind fun w h1 => (ofO (asI w) h1).bind fun i h2 => .ok (some i) h2
theorem so_none : SO X E none doN := po_none.weak fun s H Q ⟨Hb, ρ, F0, Fr, σ, h, R, x, k⟩ => k Hb ρ H (Same.refl _) (List.prefix_refl _) R
theorem so_some (he : SE X E e d) : SO X E (some e) (doS d) := (po_some he).weak fun s H Q ⟨Hb, ρ, F0, Fr, σ, h, R, x, k⟩ => by
  refine ⟨Hb, ρ, F0, Fr, σ, h, R, x, (Rz.bind k).imp (fun w h1 k => ?_) fun _ _ z => z⟩
  obtain ⟨i, ei, k⟩ := Rz.ofO (Rz.bind k)
  intro Hb1 ρ1 H1 v1 s1 p1 R1 r1
  cases w with
  | int j =>
    have ei : some j = some i := ei
    cases ei
    exact ⟨_, int_of r1, k Hb1 ρ1 H1 s1 p1 R1⟩
  | _ => cases ei
def dSl (g : DV → Option Int → Option Int → Option DV) (d : DE) (dl dh : DO) : DE := fun σ h => (d σ h).bind fun w h1 => (dl σ h1).bind fun lo h2 => (dh σ h2).bind fun hi h3 => ofO (g w lo hi) h3
def SlD (X : Cx) (r : V → Option Int → Option Int → Hp → VK → Prop) (g : DV → Option Int → Option Int → Option DV) : Prop := ∀ (Hb : Hp) (ρ : List Addr) (Fr : Hp) (h : DH) (H : Hp) (x : V) (lo hi : Option Int) (a w : DV) (Q : VK), Rel X.K Hb ρ Fr h H → RepT X.K Hb ρ Fr x a → g a lo hi = some w → Pst X.K Hb ρ Fr Q w h → r x lo hi H Q
theorem se_slice {r : V → Option Int → Option Int → Hp → VK → Prop} {gs : DV → Option Int → Option Int → Option DV} {lo hi : Option Expr} {dl dh : DO} {p2 : Pos} (hr : SlR X r) (hd : SlD X r gs) (he : SE X E e d) (hl : SO X E lo dl) (hu : SO X E hi dh) :
    SE X E (.Subscript e (.Slice lo hi none p2) pos) (dSl gs d dl dh) := (pe_slice hr he hl hu).weak fun s H Q ⟨Hb, ρ, F0, Fr, σ, h, R, x, k⟩ => by
  refine ⟨Hb, ρ, F0, Fr, σ, h, R, x, (Rz.bind k).imp (fun w h1 k => ?_) fun _ _ z => z⟩
  intro Hb1 ρ1 H1 v1 s1 p1 R1 r1
  refine ⟨Hb1, ρ1, F0, Fr, σ, h1, R1, x.mono s1 p1, (Rz.bind k).imp (fun lo h2 k => ?_) (Pex.back s1 p1)⟩
  intro Hb2 ρ2 H2 s2 p2 R2
  refine ⟨Hb2, ρ2, F0, Fr, σ, h2, R2, (x.mono s1 p1).mono s2 p2, (Rz.bind k).imp (fun hi h3 k => ?_) (Pex.back (s1.trans s2) (p1.trans p2))⟩
  intro Hb3 ρ3 H3 s3 p3 R3
  obtain ⟨w', ew, k⟩ := Rz.ofO k
  exact hd Hb3 ρ3 Fr h3 H3 v1 lo hi w w' Q R3 (r1.mono (s2.trans s3) (p2.trans p3) (Same.refl _)) ew (Pst.back ((s1.trans s2).trans s3) ((p1.trans p2).trans p3) _ _ k)
def cutD (xs : List DV) (lo hi : Option Int) : List DV := (xs.drop (HT.sIx xs.length 0 lo)).take (HT.sIx xs.length xs.length hi - HT.sIx xs.length 0 lo)
def gSlT : DV → Option Int → Option Int → Option DV
  | .tup ws, lo, hi => some (.tup (cutD ws lo hi))
  | _, _, _ => none
def gSlL : DV → Option Int → Option Int → Option DV
  | .lst ws, lo, hi => some (.lst (cutD ws lo hi))
  | .brw ws, lo, hi => some (.lst (cutD ws lo hi))
  | _, _, _ => none
theorem reps_cut {K : PySem.W.Frag} {Hb : Hp} {ρ : List Addr} {xs : List V} {ws : List DV} (r : Reps K Hb ρ xs ws) (lo hi : Option Int) : Reps K Hb ρ (cutV xs lo hi) (cutD ws lo hi) := by
  unfold cutV cutD
  rw [r.length]
  exact (r.drop _).take _
theorem sd_tup : SlD X (rSlA X.K) gSlT := fun Hb ρ Fr h H x lo hi a w Q R rx e k => by
  cases a with
  | tup ws =>
    cases e
    obtain ⟨p, xs, ex, hq, rr⟩ := tup_of R rx
    refine ⟨p, xs, ex, hq, fun hw => ?_, fun _ c hp => Pst.tup R k (reps_cut rr lo hi) c hp⟩
    rw [rr.length] at hw
    have ec : cutD ws lo hi = ws := by
      unfold cutD
      rw [hw.1, hw.2, List.drop_zero, Nat.sub_zero, List.take_length]
    rw [ec] at k
    rw [← ex]
    exact Pst.same R k rx
  | _ => cases e
theorem sd_lst : SlD X (rSlL X.K) gSlL := fun Hb ρ Fr h H x lo hi a w Q R rx e k => by
  cases a with
  | lst ws =>
    cases e
    obtain ⟨p, xs, ex, hq, rr⟩ := lst_of R rx
    exact ⟨p, xs, ex, SqL.of hq, fun c hp => Pst.lst R k (reps_cut rr lo hi) c hp⟩
  | brw ws =>
    cases e
    obtain ⟨p, xs, ex, hq, rr⟩ := brw_of R rx
    exact ⟨p, xs, ex, hq, fun c hp => Pst.lst R k (reps_cut rr lo hi) c hp⟩
  | _ => cases e
def gSl : DV → Option Int → Option Int → Option DV := fun a lo hi => match gSlT a lo hi with
  | some w => some w
  | none => gSlL a lo hi
theorem osl : ∃ r, SlR X r ∧ SlD X r gSl := ⟨_, sl_tupA.or sl_list, fun Hb ρ Fr h H x lo hi a w Q R rx e k => by
  unfold gSl at e
  cases eg : gSlT a lo hi with
  | some w' => rw [eg] at e; cases e; exact .inl (sd_tup Hb ρ Fr h H x lo hi a w Q R rx eg k)
  | none => rw [eg] at e; exact .inr (sd_lst Hb ρ Fr h H x lo hi a w Q R rx e k)⟩
def g1 (f : DV → DH → Option DV) : List DV → DH → Option DV := fun ws h => match ws with
  | [w] => f w h
  | _ => none
def g2 (f : DV → DV → Option DV) : List DV → DH → Option DV := fun ws _ => match ws with
  | [w, z] => f w z
  | _ => none
theorem reps1 {K : PySem.W.Frag} {Hb : Hp} {ρ : List Addr} {Fr : Hp} {xs : List V} {w : DV} (r : RepTs K Hb ρ Fr xs [w]) : ∃ x, xs = [x] ∧ RepT K Hb ρ Fr x w := by
  cases r with
  | cons r1 rr => cases rr; exact ⟨_, rfl, r1⟩
theorem cd1 {r : List V → Hp → VK → Prop} {f : DV → DH → Option DV} (hr : ∀ (Hb : Hp) (ρ : List Addr) (Fr : Hp) (h : DH) (H : Hp) (x : V) (a w : DV) (Q : VK), Rel X.K Hb ρ Fr h H → RepT X.K Hb ρ Fr x a → f a h = some w → Pst X.K Hb ρ Fr Q w h → r [x] H Q) : CallD X r (g1 f) := fun Hb ρ Fr h H xs ws w Q R rx e k => by
  cases ws with
  | nil => cases e
  | cons a t =>
    cases t with
    | nil =>
      obtain ⟨x, rfl, r1⟩ := reps1 rx
      exact hr Hb ρ Fr h H x a w Q R r1 e k
    | cons b t => cases e
theorem cd2 {r : List V → Hp → VK → Prop} {f : DV → DV → Option DV} (hr : ∀ (Hb : Hp) (ρ : List Addr) (Fr : Hp) (h : DH) (H : Hp) (x y : V) (a b w : DV) (Q : VK), Rel X.K Hb ρ Fr h H → RepT X.K Hb ρ Fr x a → RepT X.K Hb ρ Fr y b → f a b = some w → Pst X.K Hb ρ Fr Q w h → r [x, y] H Q) : CallD X r (g2 f) := fun Hb ρ Fr h H xs ws w Q R rx e k => by
  cases ws with
  | nil => cases e
  | cons a t =>
    cases t with
    | nil => cases e
    | cons b t =>
      cases t with
      | nil =>
        cases rx with
        | cons r1 rr =>
          obtain ⟨y, rfl, r2⟩ := reps1 rr
          exact hr Hb ρ Fr h H _ y a b w Q R r1 r2 e k
      | cons c t => cases e
def gcOr (g g' : List DV → DH → Option DV) : List DV → DH → Option DV := fun ws h => match g ws h with
  | some w => some w
  | none => g' ws h
theorem cd_or {r r' : List V → Hp → VK → Prop} {g g' : List DV → DH → Option DV} (h1 : CallD X r g) (h2 : CallD X r' g') : CallD X (fun xs H Q => r xs H Q ∨ r' xs H Q) (gcOr g g') := fun Hb ρ Fr h H xs ws w Q R rx e k => by
  unfold gcOr at e
  cases eg : g ws h with
  | some w' => rw [eg] at e; cases e; exact .inl (h1 Hb ρ Fr h H xs ws w Q R rx eg k)
  | none => rw [eg] at e; exact .inr (h2 Hb ρ Fr h H xs ws w Q R rx e k)
def gLenS (w : DV) (_ : DH) : Option DV := (seqOf w).map fun ws => .int (ws.length : Nat)
def gLenT (w : DV) (_ : DH) : Option DV := match w with
  | .str x => if x.length ≤ cap then some (.int (x.length : Nat)) else none
  | _ => none
def gLenC (w : DV) (h : DH) : Option DV := match w with
  | .ref n => (h[n]?).bind fun c => match c with
    | .lst ws => some (.int (ws.length : Nat))
    | _ => none
  | _ => none
def gLen : List DV → DH → Option DV := gcOr (g1 gLenS) (gcOr (g1 gLenC) (g1 gLenT))
theorem olen : ∃ r, CallR X (.builtin "len") r ∧ CallD X r gLen := ⟨_, call_len_seq.or (call_len_seq.or call_len_str), cd_or (cd1 fun Hb ρ Fr h H x a w Q R r1 e k => by
    obtain ⟨us, e1, e2⟩ := Option.map_eq_some_iff.mp e
    subst e2
    obtain ⟨p, ys, ex, hq, rr⟩ := seq_of R r1 e1
    refine ⟨p, ys, by rw [ex], hq, ?_⟩
    rw [rr.length]
    exact Pst.same R k (.per (.int _))) (cd_or (cd1 fun Hb ρ Fr h H x a w Q R r1 e k => by
    cases a with
    | ref n =>
      obtain ⟨c, eh, e⟩ := Option.bind_eq_some_iff.mp e
      cases r1 with
      | per r1 =>
        cases r1 with
        | ref ea =>
          rename_i a
          have y := R.cell n a c ea eh
          cases c with
          | lst us =>
            cases e
            obtain ⟨ys, hq, rr⟩ := y
            refine ⟨a, ys, rfl, .inl (SqL.of hq), ?_⟩
            rw [rr.length]
            exact Pst.same R k (.per (.int _))
          | obj _ _ => cases e
          | own => cases e
    | _ => cases e) (cd1 fun Hb ρ Fr h H x a w Q R r1 e k => by
    cases a with
    | str z =>
      have e : (if z.length ≤ cap then some (DV.int (z.length : Nat)) else none) = some w := e
      by_cases hc : z.length ≤ cap
      · rw [if_pos hc] at e
        cases e
        exact ⟨z, by rw [str_of r1], cap_le hc, Pst.same R k (.per (.int _))⟩
      · rw [if_neg hc] at e; cases e
    | _ => cases e))⟩
def tyName : DV → Option String
  | .non => some "NoneType"
  | .bl _ => some "bool"
  | .int _ => some "int"
  | .str _ => some "str"
  | .tup _ => some "tuple"
  | .lst _ => some "list"
  | .brw _ => some "list"
  | _ => none
def tyCon : DV → Option String
  | .con (.ty n) => some n
  | _ => none
def gIsi : List DV → DH → Option DV := g2 fun w c => (tyCon c).bind fun n => (tyName w).bind fun t => (kitB t n).map .bl
theorem sqt_ty {K : PySem.W.Frag} {H : Hp} {a : Addr} {xs : List V} (h : SqT K H a xs) : TyX K H (.ref a) (.type "tuple") := by
  rcases h with (h | ⟨o, h⟩) | ⟨o, its, n, h1, h2, _⟩
  · exact .base (.tup h)
  · exact .fTuple h
  · exact .kTuple h1 h2
theorem sql_ty {K : PySem.W.Frag} {H : Hp} {a : Addr} {xs : List V} (h : SqL K H a xs) : TyX K H (.ref a) (.type "list") := by
  rcases h with (h | ⟨o, h⟩) | ⟨o, its, n, h1, h2, _⟩
  · exact .base (.lst h)
  · exact .base (.frz h)
  · exact .kList h1 h2
theorem ty_of {K : PySem.W.Frag} {Hb : Hp} {ρ : List Addr} {Fr H : Hp} {h : DH} {x : V} {w : DV} {t : String} (R : Rel K Hb ρ Fr h H) (r : RepT K Hb ρ Fr x w) (e : tyName w = some t) : TyX K H x (.type t) := by
  cases w with
  | non => cases e; rw [non_of r]; exact .base .non
  | bl b => cases e; rw [bl_of r]; exact .base (.bl b)
  | int i => cases e; rw [int_of r]; exact .base (.int i)
  | str z => cases e; rw [str_of r]; exact .base (.str z)
  | tup ws => cases e; obtain ⟨a, xs, rfl, hq, _⟩ := tup_of R r; exact sqt_ty hq
  | lst ws => cases e; obtain ⟨a, xs, rfl, hq, _⟩ := lst_of R r; exact .base (.lst hq)
  | brw ws => cases e; obtain ⟨a, xs, rfl, hq, _⟩ := brw_of R r; exact sql_ty hq
  | _ => cases e
theorem oisi : ∃ r, CallR X (.builtin "isinstance") r ∧ CallD X r gIsi := ⟨_, call_isi, cd2 fun Hb ρ Fr h H x y a b w Q R r1 r2 e k => by
  obtain ⟨n, e0, e⟩ := Option.bind_eq_some_iff.mp e
  obtain ⟨t, e1, e⟩ := Option.bind_eq_some_iff.mp e
  obtain ⟨c, e2, e⟩ := Option.map_eq_some_iff.mp e
  subst e
  cases b with
  | con v =>
    cases v with
    | ty m =>
      cases e0
      exact ⟨x, y, .type t, .type n, c, rfl, by rw [con_of r2]; exact .ty n, ty_of R r1 e1, kit_ty e2, Pst.same R k (.per (.bl _))⟩
    | _ => cases e0
  | _ => cases e0⟩
theorem se_ty {x : Str} {n : String} (hg : Gl X x) (hm : X.mg x = none) (hv : bootBuiltins x = some (.type n)) (hn : x ≠ "__name__" := by decide) (hd : (x == ("__debug__" : Str)) = false := by decide) : SE X E (.Name x pos) (dC (.con (.ty n))) :=
  se_c (v := .ty n) (pe_bltn hg hm hv rfl hn hd) fun _ _ => .con _
def gTupleL : List DV → DH → Option DV := g1 fun w _ => (lstOf w).map .tup
def gTupleT : List DV → DH → Option DV := g1 fun w _ => match w with
  | .tup ws => some (.tup ws)
  | _ => none
def gTuple : List DV → DH → Option DV := gcOr gTupleL gTupleT
def gList : List DV → DH → Option DV := g1 fun w _ => (seqOf w).map .lst
theorem otuple : ∃ r, CallR X (.type "tuple") r ∧ CallD X r gTuple := ⟨_, call_tuple_of.or call_tupleT, cd_or (cd1 fun Hb ρ Fr h H x a w Q R r1 e k => by
  obtain ⟨us, e1, e2⟩ := Option.map_eq_some_iff.mp e
  subst e2
  obtain ⟨p, ys, ex, hq, rr⟩ := lstR_of R r1 e1
  exact ⟨p, ys, by rw [ex], .inl ⟨hq, fun c hp => Pst.tup R k rr c hp⟩⟩) (cd1 fun Hb ρ Fr h H x a w Q R r1 e k => by
  cases a with
  | tup ws =>
    cases e
    obtain ⟨p, ys, ex, hq, rr⟩ := tup_of R r1
    subst ex
    exact ⟨p, ys, rfl, hq, Pst.same R k r1⟩
  | _ => cases e)⟩
theorem olist : ∃ r, CallR X (.type "list") r ∧ CallD X r gList := ⟨_, call_list_of, cd1 fun Hb ρ Fr h H x a w Q R r1 e k => by
  obtain ⟨us, e1, e2⟩ := Option.map_eq_some_iff.mp e
  subst e2
  obtain ⟨p, ys, ex, hq, rr⟩ := seq_of R r1 e1
  exact ⟨p, ys, by rw [ex], hq, fun c hp => Pst.lst R k rr c hp⟩⟩
def allI : List DV → Option (List Int)
  | [] => some []
  | w :: ws => (asI w).bind fun i => (allI ws).map fun is => i :: is
def allB : List DV → Option (List Bool)
  | [] => some []
  | w :: ws => (asB w).bind fun i => (allB ws).map fun is => i :: is
theorem allI_rep {K : PySem.W.Frag} {Hb : Hp} {ρ : List Addr} : ∀ {ws : List DV} {xs : List V} {ns : List Int}, Reps K Hb ρ xs ws → allI ws = some ns → xs = ns.map V.int
  | [], _, _, r, e => by cases r; cases e; rfl
  | w :: ws, _, _, r, e => by
    cases r with
    | cons r1 rr =>
      obtain ⟨i, e1, e⟩ := Option.bind_eq_some_iff.mp e
      obtain ⟨is, e2, e⟩ := Option.map_eq_some_iff.mp e
      subst e
      cases w with
      | int j => cases e1; cases r1; rw [allI_rep rr e2]; rfl
      | _ => cases e1
theorem allB_rep {K : PySem.W.Frag} {Hb : Hp} {ρ : List Addr} : ∀ {ws : List DV} {xs : List V} {ns : List Bool}, Reps K Hb ρ xs ws → allB ws = some ns → xs = ns.map V.bl
  | [], _, _, r, e => by cases r; cases e; rfl
  | w :: ws, _, _, r, e => by
    cases r with
    | cons r1 rr =>
      obtain ⟨i, e1, e⟩ := Option.bind_eq_some_iff.mp e
      obtain ⟨is, e2, e⟩ := Option.map_eq_some_iff.mp e
      subst e
      cases w with
      | bl j => cases e1; cases r1; rw [allB_rep rr e2]; rfl
      | _ => cases e1
def gSum : List DV → DH → Option DV := g1 fun w _ => (lstOf w).bind fun ws => (allI ws).map fun ns => .int ns.sum
def gAll : List DV → DH → Option DV := g1 fun w _ => (lstOf w).bind fun ws => (allB ws).map fun bs => .bl (bs.all id)
def gAny : List DV → DH → Option DV := g1 fun w _ => (lstOf w).bind fun ws => (allB ws).map fun bs => .bl (bs.any id)
theorem osum (hc : X.calm = true) : ∃ r, CallR X (.builtin "sum") r ∧ CallD X r gSum := ⟨_, cr_sum hc, cd1 fun Hb ρ Fr h H x a w Q R r1 e k => by
  obtain ⟨us, e1, e⟩ := Option.bind_eq_some_iff.mp e
  obtain ⟨ns, e2, e⟩ := Option.map_eq_some_iff.mp e
  subst e
  obtain ⟨p, ys, ex, hq, rr⟩ := lstR_of R r1 e1
  exact ⟨p, ns, by rw [ex], by rw [← allI_rep rr e2]; exact hq, Pst.same R k (.per (.int _))⟩⟩
theorem oall (hc : X.calm = true) : ∃ r, CallR X (.builtin "all") r ∧ CallD X r gAll := ⟨_, cr_all hc, cd1 fun Hb ρ Fr h H x a w Q R r1 e k => by
  obtain ⟨us, e1, e⟩ := Option.bind_eq_some_iff.mp e
  obtain ⟨ns, e2, e⟩ := Option.map_eq_some_iff.mp e
  subst e
  obtain ⟨p, ys, ex, hq, rr⟩ := lstR_of R r1 e1
  exact ⟨p, ns, by rw [ex], by rw [← allB_rep rr e2]; exact hq, Pst.same R k (.per (.bl _))⟩⟩
theorem oany (hc : X.calm = true) : ∃ r, CallR X (.builtin "any") r ∧ CallD X r gAny := ⟨_, cr_any hc, cd1 fun Hb ρ Fr h H x a w Q R r1 e k => by
  obtain ⟨us, e1, e⟩ := Option.bind_eq_some_iff.mp e
  obtain ⟨ns, e2, e⟩ := Option.map_eq_some_iff.mp e
  subst e
  obtain ⟨p, ys, ex, hq, rr⟩ := lstR_of R r1 e1
  exact ⟨p, ns, by rw [ex], by rw [← allB_rep rr e2]; exact hq, Pst.same R k (.per (.bl _))⟩⟩
def gMin2 : List DV → DH → Option DV := g2 (gI fun i j => some (.int (if j < i then j else i)))
def gMax2 : List DV → DH → Option DV := g2 (gI fun i j => some (.int (if j > i then j else i)))
theorem omin2 (hc : X.calm = true) : ∃ r, CallR X (.builtin "min") r ∧ CallD X r gMin2 := ⟨_, call_min2 hc, cd2 fun Hb ρ Fr h H x y a b w Q R r1 r2 e k => by
  obtain ⟨i, j, rfl, rfl, e⟩ := gI_some e
  cases e
  exact ⟨i, j, by rw [int_of r1, int_of r2], Pst.same R k (.per (.int _))⟩⟩
def intLit : List DictEntry → List (Int × Int) → Bool
  | [], [] => true
  | e :: es, (k, v) :: r => Value.isInt k e.key && decide (e.hash = hashInt k) && Value.isInt v e.val && intLit es r
  | _, _ => false
structure KDI (K : PySem.W.Frag) (d : Addr) (kvs : List (Int × Int)) : Prop where
  at_ : ∃ es n, K.lookup d = some ⟨.type "dict", none, .dict es n, #[]⟩ ∧ intLit es.toList kvs = true
  low : (d == sysModules) = false
def kvI (kvs : List (Int × Int)) (k : Int) : Option Int := (kvs.find? fun p => p.1 == k).map (·.2)
theorem lit_find {prog : Program} {w : World} (k : Int) : ∀ {es : List DictEntry} {kvs : List (Int × Int)}, intLit es kvs = true → (∀ e ∈ es, ∃ k, (intKind prog w).is k e.key = true ∧ e.hash = (intKind prog w).hash k) ∧
    ((es.find? fun e => Value.isInt k e.key).map (·.val) = none ∧ kvI kvs k = none ∨ ∃ v t, (es.find? fun e => Value.isInt k e.key).map (·.val) = some (.int v t) ∧ kvI kvs k = some v)
  | [], [], _ => ⟨(fun _ h => by cases h), .inl ⟨rfl, rfl⟩⟩
  | [], (_, _) :: _, h => by cases h
  | e :: es, [], h => by cases h
  | e :: es, (k0, v0) :: r, h => by
    unfold intLit at h
    simp only [Bool.and_eq_true, decide_eq_true_eq] at h
    obtain ⟨⟨⟨h1, h2⟩, h3⟩, h4⟩ := h
    obtain ⟨ih1, ih2⟩ := lit_find (prog := prog) (w := w) k h4
    refine ⟨fun e' he => ?_, ?_⟩
    · rcases List.mem_cons.mp he with rfl | he
      · exact ⟨k0, h1, h2⟩
      · exact ih1 e' he
    · obtain ⟨t, ht⟩ := Value.isInt_shape h1
      obtain ⟨t', ht'⟩ := Value.isInt_shape h3
      by_cases hk : k0 = k
      · subst hk
        refine .inr ⟨v0, t', ?_, ?_⟩
        · rw [List.find?_cons_of_pos (p := fun (e : DictEntry) => Value.isInt k0 e.key) h1]
          exact congrArg some ht'
        · unfold kvI
          rw [List.find?_cons_of_pos (by simp)]
          rfl
      · have n1 : ¬ Value.isInt k e.key = true := fun z => by
          rw [ht] at z
          simp [Value.isInt] at z
          exact hk z
        rw [List.find?_cons_of_neg (p := fun (e : DictEntry) => Value.isInt k e.key) n1]
        have e2 : kvI ((k0, v0) :: r) k = kvI r k := by
          unfold kvI
          rw [List.find?_cons_of_neg (by simp [hk])]
        rw [e2]
        exact ih2
theorem kdi_map {K : PySem.W.Frag} {h : Heap} {prog : Program} {w : World} {d : Addr} {kvs : List (Int × Int)} (D : KDI K d kvs) (X : K.In h) : ∃ f, h.MapOf (intKind prog w) d f ∧ ∀ k, (f k = none ∧ kvI kvs k = none) ∨ ∃ v t, f k = some (.int v t) ∧ kvI kvs k = some v := by
  obtain ⟨es, n, hl, lit⟩ := D.at_
  refine ⟨fun k => findBy (intKind prog w).is es k, ⟨_, es, n, X d _ hl, ⟨rfl, rfl, rfl⟩, rfl, fun e he => (lit_find (prog := prog) (w := w) 0 lit).1 e (Array.mem_toList_iff.mpr he), fun k => rfl⟩, fun k => ?_⟩
  have q := (lit_find (prog := prog) (w := w) k lit).2
  have e : findBy (intKind prog w).is es k = (es.toList.find? fun e => Value.isInt k e.key).map (·.val) := by
    unfold findBy
    rw [← Array.find?_toList]
    rfl
  show (findBy (intKind prog w).is es k = none ∧ kvI kvs k = none) ∨ ∃ v t, findBy (intKind prog w).is es k = some (Value.int v t) ∧ kvI kvs k = some v
  rw [e]
  exact q
def gKIn (kvs : List (Int × Int)) : DV → DV → Option DV := fun a _ => match a with
  | .int k => some (.bl (kvI kvs k).isSome)
  | _ => none
def gKIx (kvs : List (Int × Int)) : DV → DV → Option DV := fun _ b => match b with
  | .int k => (kvI kvs k).map .int
  | _ => none
def rKIn (d : Addr) (kvs : List (Int × Int)) : R2 := fun x y H Q => ∃ k, x = .int k ∧ y = .ref d ∧ Q (.bl (kvI kvs k).isSome) H
def rKIx (d : Addr) (kvs : List (Int × Int)) : R2 := fun x y H Q => ∃ k v, x = .ref d ∧ y = .int k ∧ kvI kvs k = some v ∧ Q (.int v) H
theorem op_kin {d : Addr} {kvs : List (Int × Int)} (D : KDI X.K d kvs) : OpR X (compareOp .In) (rKIn d kvs) := by
  intro pins s σ H x y v u Q I rx ry h
  obtain ⟨k, rfl, rfl, q⟩ := h
  obtain ⟨t, rfl⟩ := rx
  cases ry
  obtain ⟨f, hm, hf⟩ := kdi_map (prog := X.prog) (w := X.w) D I.kIn
  refine wpAny_in_of (knd := intKind X.prog X.w) (k := k) (by show Value.isInt k (.int k t) = true; simp [Value.isInt]) D.low hm ?_
  rcases hf k with ⟨e1, e2⟩ | ⟨v, t', e1, e2⟩
  · rw [e2] at q; rw [e1]; exact ⟨.bl false, H, I.tok _, rfl, q⟩
  · rw [e2] at q; rw [e1]; exact ⟨.bl true, H, I.tok _, rfl, q⟩
theorem ix_kix {d : Addr} {kvs : List (Int × Int)} (D : KDI X.K d kvs) : IxR X (rKIx d kvs) := by
  intro value slice pins s σ H x y v u Q I rx ry h hs
  obtain ⟨k, z, rfl, rfl, e, q⟩ := h
  obtain rfl : v = Value.ref d := rx
  obtain ⟨t, rfl⟩ := ry
  obtain ⟨f, hm, hf⟩ := kdi_map (prog := X.prog) (w := X.w) D I.kIn
  rcases hf k with ⟨e1, e2⟩ | ⟨v, t', e1, e2⟩
  · rw [e] at e2; cases e2
  · rw [e] at e2
    cases e2
    exact tail_any hm.typeIs slot_dict_getitem.lookup (wpAny_getItem_of (knd := intKind X.prog X.w) (k := k) (by show Value.isInt k (.int k t) = true; simp [Value.isInt]) hm e1 ⟨.int z, H, I.tok _, ⟨_, rfl⟩, q⟩) hs
def dKIn (kvs : List (Int × Int)) (da : DE) : DE := dUn (fun a => gKIn kvs a .non) da
theorem okin {d : Addr} {kvs : List (Int × Int)} (D : KDI X.K d kvs) : ∃ r, OpR X (compareOp .In) r ∧ OpD X r (fun a b => match b with | .con v => if v = .ref d then gKIn kvs a b else none | _ => none) := ⟨_, op_kin D, fun Hb ρ Fr h H x y a b w Q R rx ry e k => by
  cases b with
  | con v =>
    have e : (if v = .ref d then gKIn kvs a (.con v) else none) = some w := e
    by_cases hv : v = .ref d
    · rw [if_pos hv] at e
      cases a with
      | int i => cases e; exact ⟨i, int_of rx, by rw [con_of ry]; exact hv, Pst.same R k (.per (.bl _))⟩
      | _ => cases e
    · rw [if_neg hv] at e; cases e
  | _ => cases e⟩
end
end DL
namespace DL
open PySem PySem.Spec PyProof.Rows L2

def pairs : List DV → List DV → List DV
  | x :: xs, y :: ys => .tup [x, y] :: pairs xs ys
  | _, _ => []
theorem pairs_get : ∀ {xs ys : List DV} {i : Nat} {w : DV}, (pairs xs ys)[i]? = some w → ∃ x y, xs[i]? = some x ∧ ys[i]? = some y ∧ w = .tup [x, y]
  | [], _, _, _, e => by cases e
  | _ :: _, [], _, _, e => by cases e
  | x :: xs, y :: ys, 0, w, e => by cases e; exact ⟨x, y, rfl, rfl, rfl⟩
  | x :: xs, y :: ys, i + 1, w, e => pairs_get (xs := xs) (ys := ys) (i := i) e
theorem pairs_len : ∀ (xs ys : List DV), xs.length ≤ (pairs xs ys).length ∨ ys.length ≤ (pairs xs ys).length
  | [], ys => .inl (Nat.zero_le _)
  | x :: xs, [] => .inr (Nat.zero_le _)
  | x :: xs, y :: ys => (pairs_len xs ys).imp Nat.succ_le_succ Nat.succ_le_succ
section
variable {K : PySem.W.Frag}
theorem src_zip {Gen : Hp → Addr → List V → Prop} {J : It} {a b : Addr} {xs ys : List V} {ws zs : List DV} {Iv : Hp → List Addr → Hp → Prop}
    (mono : ∀ Hb Hb' ρ ρ' G, Same Hb Hb' → ρ <+: ρ' → Iv Hb ρ G → Iv Hb' ρ' G) (hq : ∀ Hb ρ G Fr h H, Iv Hb ρ G → Same G Fr → Rel K Hb ρ Fr h H → Gen H a xs ∧ Gen H b ys) (hr : ∀ Hb ρ G, Iv Hb ρ G → Reps K Hb ρ xs ws ∧ Reps K Hb ρ ys zs)
    (stop : ∀ i H, Gen H a xs → Gen H b ys → (xs.length ≤ i ∨ ys.length ≤ i) → J.stop i H) (go : ∀ i H x y, Gen H a xs → Gen H b ys → xs[i]? = some x → ys[i]? = some y → J.go i H)
    (yld : ∀ i H v H', Gen H a xs → Gen H b ys → J.yld i H v H' → ∃ T x y, v = .ref T ∧ H T = none ∧ H' = upd H T (.tup [x, y]) ∧ xs[i]? = some x ∧ ys[i]? = some y) : Src K J (pairs ws zs) Iv where
  mono := mono
  stop := fun Hb ρ G Fr h H iv g R => by
    obtain ⟨q1, q2⟩ := hq Hb ρ G Fr h H iv g R
    obtain ⟨r1, r2⟩ := hr Hb ρ G iv
    exact stop _ H q1 q2 (by rw [r1.length, r2.length]; exact pairs_len ws zs)
  go := fun Hb ρ G Fr h H i w iv g R e => by
    obtain ⟨q1, q2⟩ := hq Hb ρ G Fr h H iv g R
    obtain ⟨r1, r2⟩ := hr Hb ρ G iv
    obtain ⟨x, y, ex, ey, rfl⟩ := pairs_get e
    obtain ⟨vx, evx, rx⟩ := r1.get ex
    obtain ⟨vy, evy, ry⟩ := r2.get ey
    refine ⟨go i H vx vy q1 q2 evx evy, fun v H' yl => ?_⟩
    obtain ⟨T, x', y', rfl, hT, rfl, e1, e2⟩ := yld i H v H' q1 q2 yl
    rw [evx] at e1
    rw [evy] at e2
    cases e1
    cases e2
    obtain ⟨s1, R1⟩ := R.new hT (.tup [vx, vy])
    exact ⟨_, s1, R1, rep_tup (R.hb_fresh hT) (.cons rx (.cons ry .nil))⟩
end
def zip2 (c : Bool) : DV → DV → Option (List DV)
  | .tup ws, .tup zs => some (pairs ws zs)
  | .lst ws, .lst zs => some (pairs ws zs)
  | .brw ws, .lst zs => if c = true then some (pairs ws zs) else none
  | .lst ws, .brw zs => if c = true then some (pairs ws zs) else none
  | .brw ws, .brw zs => if c = true then some (pairs ws zs) else none
  | _, _ => none
def gZip (c : Bool) (ws : List DV) : Option (List DV) := match ws with
  | [w, z] => zip2 c w z
  | _ => none
theorem lst_iv {K : PySem.W.Frag} {Hb : Hp} {ρ : List Addr} {Fr : Hp} {x : V} {w : DV} {ws : List DV} (c : Bool) (F0 : Hp) (r : RepT K Hb ρ Fr x w) (e : lstOf w = some ws) (hc : c = true ∨ held w = true) :
    ∃ a xs Iv, x = .ref a ∧ (Iv : Hp → List Addr → Hp → Prop) Hb ρ (if c = true then Fr else F0) ∧ (∀ Hb Hb' ρ ρ' G, Same Hb Hb' → ρ <+: ρ' → Iv Hb ρ G → Iv Hb' ρ' G) ∧ (∀ Hb ρ G Fr h H, Iv Hb ρ G → Same G Fr → Rel K Hb ρ Fr h H → SqL K H a xs) ∧ (∀ Hb ρ G, Iv Hb ρ G → Reps K Hb ρ xs ws) := by
  cases r with
  | per r =>
    cases r with
    | lst hq rr =>
      cases e
      rename_i a xs
      exact ⟨a, xs, fun Hb ρ G => Hb a = some (.lst xs) ∧ Reps K Hb ρ xs ws, rfl, ⟨hq, rr⟩, fun _ _ _ _ _ s p iv => ⟨s _ _ iv.1, iv.2.mono s p⟩, fun _ _ _ _ _ _ iv _ R => SqL.of (R.sub _ _ iv.1), fun _ _ _ iv => iv.2⟩
    | _ => cases e
  | brw hq rr =>
    cases e
    rename_i a xs
    rcases hc with hc | hc
    · rw [if_pos hc]
      exact ⟨a, xs, fun Hb ρ G => SqL K G a xs ∧ Reps K Hb ρ xs ws, rfl, ⟨hq, rr⟩, fun _ _ _ _ _ s p iv => ⟨iv.1, iv.2.mono s p⟩, fun _ _ _ _ _ _ iv g R => sql_same R.fr (sql_same g iv.1), fun _ _ _ iv => iv.2⟩
    · cases hc
section
variable {X : Cx} {E : L2.St → XK} {e a b tg : Expr} {es : List Expr} {pos tpos : Pos} {d da db dt : DE} {dr : DA}
theorem zip_lst {c : Bool} {F0 Fr : Hp} {Hb : Hp} {ρ : List Addr} {H : Hp} {h : DH} {x y : V} {w z : DV} {ws zs : List DV} {Rr : It → Hp → Prop} (R : Rel X.K Hb ρ Fr h H) (g : Same (if c = true then Fr else F0) Fr) (r1 : RepT X.K Hb ρ Fr x w) (r2 : RepT X.K Hb ρ Fr y z) (e1 : lstOf w = some ws) (e2 : lstOf z = some zs)
    (h1 : c = true ∨ held w = true) (h2 : c = true ∨ held z = true) (k : ∀ (J : It) (Iv : Hp → List Addr → Hp → Prop), Src X.K J (pairs ws zs) Iv → Iv Hb ρ (if c = true then Fr else F0) → Rr J H) :
    ∃ a b xs ys, [x, y] = [V.ref a, V.ref b] ∧ ((SqL X.K H a xs ∧ SqL X.K H b ys ∧ Rr (Itz X.K a b) H) ∨ (SqT X.K H a xs ∧ SqT X.K H b ys ∧ Rr (RZ.ItzT X.K a b) H)) := by
  obtain ⟨p, xs, Iv1, rfl, iv1, m1, q1, s1⟩ := lst_iv c F0 r1 e1 h1
  obtain ⟨q, ys, Iv2, rfl, iv2, m2, q2, s2⟩ := lst_iv c F0 r2 e2 h2
  refine ⟨p, q, xs, ys, rfl, .inl ⟨q1 _ _ _ _ _ _ iv1 g R, q2 _ _ _ _ _ _ iv2 g R, k _ (fun Hb ρ G => Iv1 Hb ρ G ∧ Iv2 Hb ρ G) (src_zip (Gen := fun H a xs => SqL X.K H a xs) (a := p) (b := q) (fun _ _ _ _ _ s p iv => ⟨m1 _ _ _ _ _ s p iv.1, m2 _ _ _ _ _ s p iv.2⟩)
    (fun _ _ _ _ _ _ iv g R => ⟨q1 _ _ _ _ _ _ iv.1 g R, q2 _ _ _ _ _ _ iv.2 g R⟩) (fun _ _ _ iv => ⟨s1 _ _ _ iv.1, s2 _ _ _ iv.2⟩) (fun i H g1 g2 e => ⟨xs, ys, g1, g2, e⟩) (fun i H x y g1 g2 ex ey => ⟨xs, ys, x, y, g1, g2, ex, ey⟩) (fun i H v H' g1 g2 y => ?_)) ⟨iv1, iv2⟩⟩⟩
  obtain ⟨T, x, y, ev, hT, eH, f1, f2⟩ := y
  exact ⟨T, x, y, ev, hT, eH, f1 xs g1, f2 ys g2⟩
theorem zip_tup {c : Bool} {F0 Fr : Hp} {Hb : Hp} {ρ : List Addr} {H : Hp} {h : DH} {x y : V} {ws zs : List DV} {Rr : It → Hp → Prop} (R : Rel X.K Hb ρ Fr h H) (r1 : RepT X.K Hb ρ Fr x (.tup ws)) (r2 : RepT X.K Hb ρ Fr y (.tup zs))
    (k : ∀ (J : It) (Iv : Hp → List Addr → Hp → Prop), Src X.K J (pairs ws zs) Iv → Iv Hb ρ (if c = true then Fr else F0) → Rr J H) :
    ∃ a b xs ys, [x, y] = [V.ref a, V.ref b] ∧ ((SqL X.K H a xs ∧ SqL X.K H b ys ∧ Rr (Itz X.K a b) H) ∨ (SqT X.K H a xs ∧ SqT X.K H b ys ∧ Rr (RZ.ItzT X.K a b) H)) := by
  cases r1 with
  | per r1 =>
    cases r1 with
    | tup hp rp =>
      rename_i p xs
      have hp := SqT.of (K := X.K) hp
      cases r2 with
      | per r2 =>
        cases r2 with
        | tup hq rq =>
          rename_i q ys
          have hq := SqT.of (K := X.K) hq
          refine ⟨p, q, xs, ys, rfl, .inr ⟨sqt_same R.sub hp, sqt_same R.sub hq, k _ (fun Hb ρ G => (SqT X.K Hb p xs ∧ Reps X.K Hb ρ xs ws) ∧ SqT X.K Hb q ys ∧ Reps X.K Hb ρ ys zs) (src_zip (Gen := fun H a xs => SqT X.K H a xs) (a := p) (b := q)
            (fun _ _ _ _ _ s p iv => ⟨⟨sqt_same s iv.1.1, iv.1.2.mono s p⟩, sqt_same s iv.2.1, iv.2.2.mono s p⟩) (fun _ _ _ _ _ _ iv g R => ⟨sqt_same R.sub iv.1.1, sqt_same R.sub iv.2.1⟩) (fun _ _ _ iv => ⟨iv.1.2, iv.2.2⟩)
            (fun i H g1 g2 e => ⟨xs, ys, g1, g2, e⟩) (fun i H x y g1 g2 ex ey => ⟨xs, ys, x, y, g1, g2, ex, ey⟩) (fun i H v H' g1 g2 y => ?_)) ⟨⟨hp, rp⟩, hq, rq⟩⟩⟩
          obtain ⟨T, x, y, ev, hT, eH, f1, f2⟩ := y
          exact ⟨T, x, y, ev, hT, eH, f1 xs g1, f2 ys g2⟩
theorem si_zip {c : Bool} {elts : List Expr} {kk : Nat} {p : Pos} (hg : Gl X "zip") (hm : X.mg "zip" = none) (ha : SA X E [a, b] dr) (hs : starEach [a, b] X.env = (false, eval a X.env) :: starEach [b] X.env := by rfl) (hpl : (backTo pos (starEach [b] X.env)).any (·.1) = false := by rfl) :
    SI X E c (.Tuple elts kk tpos) (.Call (.Name "zip" p) [a, b] [] pos) (dSrc (gZip c) dr) := (RZ.pi_zipA hg hm ha hs hpl).weak fun s H Rr ⟨Hb, ρ, F0, Fr, σ, h, R, x, k⟩ => by
  refine ⟨Hb, ρ, F0, Fr, σ, h, R, x, (Rz.bind k).imp (fun ws h1 k => ?_) fun _ _ z => z⟩
  obtain ⟨rs, er, kz⟩ := Rz.ofO k
  clear k
  intro Hb1 ρ1 H1 vs s1 p1 R1 r1
  have g : Same (if c = true then Fr else F0) Fr := by
    cases c with
    | true => exact Same.refl _
    | false => exact x.fr
  have two : ∃ w z x y, ws = [w, z] ∧ vs = [x, y] ∧ RepT X.K Hb1 ρ1 Fr x w ∧ RepT X.K Hb1 ρ1 Fr y z := by
    cases r1 with
    | nil => cases er
    | cons q1 rr =>
      cases rr with
      | nil => cases er
      | cons q2 rr =>
        cases rr with
        | nil => exact ⟨_, _, _, _, rfl, rfl, q1, q2⟩
        | cons _ _ => cases er
  obtain ⟨w, z, vx, vy, rfl, rfl, q1, q2⟩ := two
  have er : zip2 c w z = some rs := er
  have kk := fun (J : It) (Iv : Hp → List Addr → Hp → Prop) => kz Hb1 ρ1 H1 J Iv s1 p1 R1
  cases w with
  | tup ws =>
    cases z with
    | tup zs => cases er; exact zip_tup (c := c) (F0 := F0) R1 q1 q2 kk
    | _ => cases er
  | lst ws =>
    cases z with
    | lst zs => cases er; exact zip_lst R1 g q1 q2 rfl rfl (.inr rfl) (.inr rfl) kk
    | brw zs =>
      cases c with
      | true => cases er; exact zip_lst R1 g q1 q2 rfl rfl (.inl rfl) (.inl rfl) kk
      | false => cases er
    | _ => cases er
  | brw ws =>
    cases c with
    | true =>
      cases z with
      | lst zs => cases er; exact zip_lst R1 g q1 q2 rfl rfl (.inl rfl) (.inl rfl) kk
      | brw zs => cases er; exact zip_lst R1 g q1 q2 rfl rfl (.inl rfl) (.inl rfl) kk
      | _ => cases er
    | false => cases z <;> cases er
  | _ => cases er
end
def dAsg (tf : TF) (d : DE) : DS := fun σ h => (d σ h).bind fun w h1 => chk (held w) ((ofO (tf w σ) h1).bind fun σ' h2 => .ok (.next σ') h2)
def tfL (n : Nat) (t : TFs) : TF := fun w σ => match w with
  | .lst ws => if ws.length = n then t ws σ else none
  | _ => none
theorem gd_lst {K : PySem.W.Frag} {n : Nat} {gs : TGs} {u : TFs} (hs : GDs K gs u) : GD K (gLst K n gs) (tfL n u) := fun Hb ρ F0 Fr σ σ' s h H v w Q R x r e q => by
  cases r with
  | lst hq rr =>
    rename_i a xs ws
    have e : (if ws.length = n then u ws σ else none) = some σ' := e
    by_cases hn : ws.length = n
    · rw [if_pos hn] at e
      exact ⟨_, _, rfl, SqL.of (R.sub _ _ hq), rr.length.trans hn, hs Hb ρ F0 Fr σ σ' s h H _ _ Q R x rr e q⟩
    · rw [if_neg hn] at e; cases e
  | _ => cases e
section
variable {X : Cx} {E : XK} {e tg : Expr} {pos : Pos} {d : DE}
theorem ss_asg {g : TG} {tf : TF} (he : SE X (cE E) e d) (hg : PG X tg g) (gd : GD X.K g tf) (hs : swapsWithSole [tg] e pos.line X.env = pure false := by rfl) (hw : swappedStores [tg] e X.env = pure none := by rfl)
    (h1 : (assignEach [tg] X.env).map (·.2) = [assign tg X.env] := by rfl) : SS X E (.Assign [tg] e pos) (dAsg tf d) := (ps_asg he hg hs hw h1).weak fun D s H k =>
  tS_ex (f := fun w σ h1 => chk (held w) ((ofO (tf w σ) h1).bind fun σ' h2 => .ok (.next σ') h2)) k fun w Hb ρ F0 Fr σ h H x R sl r k => by
    obtain ⟨hw, k⟩ := Rz.chk k
    obtain ⟨σ', e', k⟩ := Rz.ofO (Rz.bind k)
    exact gd Hb ρ F0 Fr σ σ' s h H x w _ R sl (r.held hw) e' fun s' x' => k Hb ρ Fr H s' (Same.refl _) (List.prefix_refl _) R x'
def dRaise (c : Str) : DS := fun _ h => .exc c h
theorem ss_raise {x : Str} {C : Addr} (hc : X.calm = true) (tk : Takes X (fun c d _ H => E c d H)) (he : PMk X e (fun _ H Q => Q (.ref C) none H)) (gC : X.mg x = some (.ref C)) : SS X E (.Raise (some e) none pos) (dRaise x) :=
  (ps_raise hc tk he).weak fun D s H ⟨Hb, ρ, F0, Fr, σ, h, R, x, k⟩ => by
  obtain ⟨u, eu, k⟩ := k
  rw [gC] at eu
  cases eu
  exact k Hb ρ H (Same.refl _) (List.prefix_refl _) (R.weak x.fr)
end
section
variable {X : Cx} {E : L2.St → XK} {a b : Expr} {pos p : Pos} {d da db : DE}
theorem se_glob {x : Str} {v : V} {w : DV} {u : Value} (hg : Gl X x) (hm : X.mg x = some u) (r : RelV v u) (rw_ : ∀ Hb ρ, Rep X.K Hb ρ v w) (hd : (x == ("__debug__" : Str)) = false := by decide) : SE X E (.Name x pos) (dC w) := se_c (pe_glob hg hm r hd) rw_
def dKIx (kvs : List (Int × Int)) (db : DE) : DE := fun σ h => (db σ h).bind fun b h1 => ofO (gKIx kvs .non b) h1
theorem se_kin {x : Str} {D : Addr} {kvs : List (Int × Int)} (K : KDI X.K D kvs) (hg : Gl X x) (hm : X.mg x = some (.ref D)) (ha : SE X E a da) (hd : (x == ("__debug__" : Str)) = false := by decide) (hk : behindInMarks .In (.Name x p) = false := by rfl) :
    SE X E (.Compare a [.In] [.Name x p] pos) (dKIn kvs da) := (pe_cmpR (op_kin K) ha (pe_glob (v := .ref D) hg hm rfl hd) hk).weak fun s H Q ⟨Hb, ρ, F0, Fr, σ, h, R, x, k⟩ => by
  refine ⟨Hb, ρ, F0, Fr, σ, h, R, x, (Rz.bind k).imp (fun w h1 k => ?_) fun _ _ z => z⟩
  obtain ⟨r, er, k⟩ := Rz.ofO k
  intro Hb1 ρ1 H1 v s1 p1 R1 r1
  cases w with
  | int i => cases er; exact ⟨i, int_of r1, rfl, k Hb1 ρ1 H1 _ s1 p1 R1 (.per (.bl _))⟩
  | _ => cases er
theorem se_kix {x : Str} {D : Addr} {kvs : List (Int × Int)} (K : KDI X.K D kvs) (hg : Gl X x) (hm : X.mg x = some (.ref D)) (hb : SE X E b db) (hs : PlainIx b) (hd : (x == ("__debug__" : Str)) = false := by decide) :
    SE X E (.Subscript (.Name x p) b pos) (dKIx kvs db) := (pe_ix (ix_kix K) (pe_glob (v := .ref D) hg hm rfl hd) hb hs).weak fun s H Q ⟨Hb, ρ, F0, Fr, σ, h, R, x, k⟩ => by
  refine ⟨Hb, ρ, F0, Fr, σ, h, R, x, (Rz.bind k).imp (fun w h1 k => ?_) fun _ _ z => z⟩
  obtain ⟨r, er, k⟩ := Rz.ofO k
  intro Hb1 ρ1 H1 v s1 p1 R1 r1
  cases w with
  | int i =>
    obtain ⟨z, ez, er⟩ := Option.map_eq_some_iff.mp er
    subst er
    exact ⟨i, z, rfl, int_of r1, ez, k Hb1 ρ1 H1 _ s1 p1 R1 (.per (.int _))⟩
  | _ => cases er
end
section
variable {X : Cx} {E : L2.St → XK} {e a b c : Expr} {es : List Expr} {pos p : Pos} {d da db dc : DE} {dr : DA}
theorem se_add (ha : SE X E a da) (hb : SE X E b db) : SE X E (.BinOp a .Add b pos) (dOp gAdd da db) := by
  obtain ⟨r, h1, h2⟩ := oadd (X := X); exact se_op h1 h2 ha hb
theorem se_sub (ha : SE X E a da) (hb : SE X E b db) : SE X E (.BinOp a .Sub b pos) (dOp gSub da db) := by
  obtain ⟨r, h1, h2⟩ := osub (X := X); exact se_op h1 h2 ha hb
theorem se_mul (ha : SE X E a da) (hb : SE X E b db) : SE X E (.BinOp a .Mult b pos) (dOp gMul da db) := by
  obtain ⟨r, h1, h2⟩ := omul (X := X); exact se_op h1 h2 ha hb
theorem se_fdiv (ha : SE X E a da) (hb : SE X E b db) : SE X E (.BinOp a .FloorDiv b pos) (dOp gFdiv da db) := by
  obtain ⟨r, h1, h2⟩ := ofdiv (X := X); exact se_op h1 h2 ha hb
theorem se_mod (ha : SE X E a da) (hb : SE X E b db) : SE X E (.BinOp a .Mod b pos) (dOp gMod da db) := by
  obtain ⟨r, h1, h2⟩ := omod (X := X); exact se_op h1 h2 ha hb
theorem se_pow (ha : SE X E a da) (hb : SE X E b db) : SE X E (.BinOp a .Pow b pos) (dOp gPow da db) := by
  obtain ⟨r, h1, h2⟩ := opow (X := X); exact se_op h1 h2 ha hb
theorem se_neg (ha : SE X E a da) : SE X E (.UnaryOp .USub a pos) (dUn gNeg da) := se_un un_neg ud_neg ha
theorem se_item (ha : SE X E a da) (hb : SE X E b db) (hs : PlainIx b) : SE X E (.Subscript a b pos) (dOp gIx da db) := by
  obtain ⟨r, h1, h2⟩ := oix (X := X); exact se_ix h1 h2 ha hb hs
theorem se_cut {lo hi : Option Expr} {dl dh : DO} {p2 : Pos} (he : SE X E e d) (hl : SO X E lo dl) (hu : SO X E hi dh) : SE X E (.Subscript e (.Slice lo hi none p2) pos) (dSl gSl d dl dh) := by
  obtain ⟨r, h1, h2⟩ := osl (X := X); exact se_slice h1 h2 he hl hu
structure Cmp (X : Cx) (op : CmpOp) (g : DV → DV → Option DV) : Prop where
  ex : ∃ r, OpR X (compareOp op) r ∧ OpD X r g
theorem c_lt : Cmp X .Lt gLt := ⟨olt⟩
theorem c_le : Cmp X .LtE gLe := ⟨ole⟩
theorem c_gt : Cmp X .Gt gGt := ⟨ogt⟩
theorem c_ge : Cmp X .GtE gGe := ⟨oge⟩
theorem c_is : Cmp X .Is gIs := ⟨ois⟩
theorem c_isnot : Cmp X .IsNot gIsNot := ⟨oisnot⟩
theorem c_eq {k : Nat} (hr : Room k X.A) : Cmp X .Eq gEq := ⟨oeq hr.units⟩
theorem c_ne {k : Nat} (hr : Room k X.A) : Cmp X .NotEq gNe := ⟨one hr.units⟩
theorem c_in {k : Nat} (hr : Room k X.A) : Cmp X .In gIn := ⟨oin (by have := hr.un; omega)⟩
theorem c_notin {k : Nat} (hr : Room k X.A) : Cmp X .NotIn gNotIn := ⟨onotin (by have := hr.un; omega)⟩
theorem se_c1 {op : CmpOp} {g : DV → DV → Option DV} (hc : Cmp X op g) (ha : SE X E a da) (hb : SE X E b db) (hm : behindInMarks op b = false := by rfl) : SE X E (.Compare a [op] [b] pos) (dOp g da db) := by
  obtain ⟨r, h1, h2⟩ := hc.ex; exact se_cmp h1 h2 ha hb hm
theorem st_c1 {op : CmpOp} {g : DV → DV → Option DV} (hc : Cmp X op g) (ha : SE X E a da) (hb : SE X E b db) (hm : behindInMarks op b = false := by rfl) : ST X E (.Compare a [op] [b] pos) (dOp g da db) := by
  obtain ⟨r, h1, h2⟩ := hc.ex; exact st_cmp h1 h2 ha hb hm
theorem se_c2 {op op' : CmpOp} {g g' : DV → DV → Option DV} (hc : Cmp X op g) (hc' : Cmp X op' g') (ha : SE X E a da) (hb : SE X E b db) (hcc : SE X E c dc) (hm : lastMarks [op, op'] [b, c] = false := by with_unfolding_all rfl) : SE X E (.Compare a [op, op'] [b, c] pos) (dChain g g' da db dc) := by
  obtain ⟨r, h1, h2⟩ := hc.ex
  obtain ⟨r', h3, h4⟩ := hc'.ex
  exact se_chain h1 h2 h3 h4 ha hb hcc hm
theorem st_c2 {op op' : CmpOp} {g g' : DV → DV → Option DV} (hc : Cmp X op g) (hc' : Cmp X op' g') (ha : SE X E a da) (hb : SE X E b db) (hcc : SE X E c dc) (hm : lastMarks [op, op'] [b, c] = false := by with_unfolding_all rfl) : ST X E (.Compare a [op, op'] [b, c] pos) (dChain g g' da db dc) := by
  obtain ⟨r, h1, h2⟩ := hc.ex
  obtain ⟨r', h3, h4⟩ := hc'.ex
  exact st_chain h1 h2 h3 h4 ha hb hcc hm
structure Blt (X : Cx) (f : Value) (g : List DV → DH → Option DV) : Prop where
  ex : ∃ r, CallR X f r ∧ CallD X r g
theorem b_len : Blt X (.builtin "len") gLen := ⟨olen⟩
theorem b_isi : Blt X (.builtin "isinstance") gIsi := ⟨oisi⟩
theorem b_tuple : Blt X (.type "tuple") gTuple := ⟨otuple⟩
theorem b_list : Blt X (.type "list") gList := ⟨olist⟩
theorem b_sum (hc : X.calm = true) : Blt X (.builtin "sum") gSum := ⟨osum hc⟩
theorem b_all (hc : X.calm = true) : Blt X (.builtin "all") gAll := ⟨oall hc⟩
theorem b_any (hc : X.calm = true) : Blt X (.builtin "any") gAny := ⟨oany hc⟩
theorem b_min2 (hc : X.calm = true) : Blt X (.builtin "min") gMin2 := ⟨omin2 hc⟩
theorem se_bi {x : Str} {id : String} {g : List DV → DH → Option DV} (hb : Blt X (.builtin id) g) (hg : Gl X x) (hm : X.mg x = none) (hv : bootBuiltins x = some (.builtin id)) (ha : SA X E (e :: es) dr)
    (hn : x ≠ "__name__" := by decide) (hdb : (x == ("__debug__" : Str)) = false := by decide) (hs : starEach (e :: es) X.env = (false, eval e X.env) :: starEach es X.env := by rfl) (hpl : (backTo pos (starEach es X.env)).any (·.1) = false := by rfl) :
    SE X E (.Call (.Name x p) (e :: es) [] pos) (dFn g dr) := by
  obtain ⟨r, h1, h2⟩ := hb.ex; exact se_callB h1 h2 hg hm hv ha hn hdb hs hpl
theorem se_bt {x : Str} {T : String} {g : List DV → DH → Option DV} (hb : Blt X (.type T) g) (hg : Gl X x) (hm : X.mg x = none) (hv : bootBuiltins x = some (.type T)) (ha : SA X E (e :: es) dr)
    (hn : x ≠ "__name__" := by decide) (hdb : (x == ("__debug__" : Str)) = false := by decide) (hs : starEach (e :: es) X.env = (false, eval e X.env) :: starEach es X.env := by rfl) (hpl : (backTo pos (starEach es X.env)).any (·.1) = false := by rfl) :
    SE X E (.Call (.Name x p) (e :: es) [] pos) (dFn g dr) := by
  obtain ⟨r, h1, h2⟩ := hb.ex; exact se_callTy h1 h2 hg hm hv ha hn hdb hs hpl
structure DefOk (P : Program) (w : World) (K : PySem.W.Frag) (mg : Str → Option Value) (base : Heap) (x : Str) (k n : Nat) (F : Fn) : Prop where
  ex : ∃ f fd ps, FnOk P w K mg base (L2.CX P w) k f fd ps (spD K mg n F) ∧ mg x = some (.ref f) ∧ PySem.W.keepIn K (.ref f) = true ∧ L2.Binds K fd ps []
theorem se_own {x : Str} {k j n : Nat} {F : Fn} (hx : ∀ σ, PassesAt (L2.CX X.prog X.w) X σ (E σ)) (hf : DefOk X.prog X.w X.K X.mg X.base x k n F) (hr : Room j X.A) (hj : k ≤ j) (hg : Gl X x) (ha : SA X E (e :: es) dr) (hdb : (x == ("__debug__" : Str)) = false := by decide)
    (hs : starEach (e :: es) X.env = (false, eval e X.env) :: starEach es X.env := by rfl) (hpl : (backTo pos (starEach es X.env)).any (·.1) = false := by rfl) :
    SE X E (.Call (.Name x p) (e :: es) [] pos) (dCall n F dr) := by
  obtain ⟨f, fd, ps, h1, h2, h3, h4⟩ := hf.ex
  exact se_call hx h1 (hr.mono hj) hg h2 h3 h4 ha hdb hs hpl
end
end DL
namespace DL
open PySem PySem.Spec PyProof.Rows L2

def fuel : Nat := 100000
section
variable {X : Cx} {E : L2.St → XK} {pos : Pos}
theorem se_int_c {x : Str} {i : Int} (hg : Gl X x) (hm : ∃ t, X.mg x = some (.int i t)) (hd : (x == ("__debug__" : Str)) = false := by decide) : SE X E (.Name x pos) (dC (.int i)) := by
  obtain ⟨t, ht⟩ := hm
  exact se_c (v := .int i) (pe_glob hg ht ⟨_, rfl⟩ hd) fun _ _ => .int i
end
section
variable {X : Cx} {E : XK} {e : Expr} {pos : Pos} {d : DE}
theorem ss_setLc {i : Nat} {y : Str} {py : Pos} {elt tg iter : Expr} {ifs : List Expr} {scope : Scope} {own : List (Str × Nat)} {spos : Pos} {src : DA} {g : TG} {tf : TF} {dt de : DE} {vs : List Nat} (hc : X.calm = true) (hN : X.N.Nodup) (hy : X.N[i]? = some y) (hyl : X.env.scope.names.lookup y = some .local)
    (hsw : swapsWith (.ListComp elt [⟨tg, iter, ifs, 0⟩] scope pos) (some (.Name y py)) spos.line X.env = pure true) (hi : SI X (cE E) true tg iter src) (ok : BlkOk X.N X.env.scope scope own) (hv : own.map (·.2) = vs)
    (hg : ∀ (s : Shared) (H : Hp) (C : Addr) (cl : List (Str × Addr)) (fp : List Addr), PG (X.blk s H scope (compEnvC scope cl C X.env) fp) tg g) (gc : GC X.K g tf vs)
    (ht : ∀ (s : Shared) (H : Hp) (C : Addr) (cl : List (Str × Addr)) (fp : List Addr), PTs (X.blk s H scope (compEnvC scope cl C X.env) fp) ifs (tT X.K X.mg (fun _ => E0) dt))
    (he : ∀ (s : Shared) (H : Hp) (C : Addr) (cl : List (Str × Addr)) (fp : List Addr), SE (X.blk s H scope (compEnvC scope cl C X.env) fp) (fun _ => E0) elt de) (hs : ∀ x, foldedSetIterable iter X.env x = pure x := by intro _; rfl) :
    SS X E (.Assign [.Name y py] (.ListComp elt [⟨tg, iter, ifs, 0⟩] scope pos) spos) (dSet i (dComp src tf dt de vs)) := by
  subst hv
  exact (ps_setLc hc hN hy hyl hsw hi ok hg ht he hs).weak fun D s H k => comp_run gc (tS_ex (f := fun w σ h1 => chk (held w) (.ok (.next (setS i w σ)) h1)) k fun w Hb ρ F0 Fr σ h H x R sl r k => by
    obtain ⟨hw, k⟩ := Rz.chk k
    exact k Hb ρ Fr H _ (Same.refl _) (List.prefix_refl _) R (slots_set sl (r.held hw)))
def dAug (f : Int → Int → Int) (i : Nat) (d : DE) : DS := fun σ h => (ofO ((getS σ i).bind asI) h).bind fun a h0 => (d σ h0).bind fun w h1 => (ofO (asI w) h1).bind fun b h2 => .ok (.next (setS i (.int (f a b)) σ)) h2
def dAug_add : Nat → DE → DS := dAug fun i j => i + j
def dAug_sub : Nat → DE → DS := dAug fun i j => i - j
theorem ss_aug {i : Nat} {x : Str} {op : Operator} {f : Int → Int → Int} {pos' : Pos} (hN : X.N.Nodup) (hi : X.N[i]? = some x) (hx : Loc X.env.scope x) (he : SE X (cE E) e d) (ho : PIp X op (ipI f)) (hf : X.fn x = true ∨ X.env.scope.names.lookup x = some .local := by first | exact .inl rfl | exact .inr rfl | assumption) :
    SS X E (.AugAssign (.Name x pos') op e pos) (dAug f i d) := (ps_aug hN hi hx he ho hf).weak fun D s H ⟨Hb, ρ, F0, Fr, σ, h, R, x, k⟩ => by
  obtain ⟨a, ea, k⟩ := Rz.ofO (Rz.bind k)
  obtain ⟨w, ew, ea⟩ := Option.bind_eq_some_iff.mp ea
  obtain ⟨v, ev, r⟩ := slot_get x ew
  refine ⟨v, ev, Hb, ρ, F0, Fr, σ, h, R, x, (Rz.bind k).imp (fun w2 h1 k => ?_) (Pex.lift x.fr)⟩
  obtain ⟨b, eb, k⟩ := Rz.ofO (Rz.bind k)
  intro Hb1 ρ1 H1 v1 s1 p1 R1 r1
  cases w with
  | int a' =>
    cases ea
    cases w2 with
    | int b' =>
      cases eb
      exact ⟨a, b, int_of r, int_of r1, k Hb1 ρ1 Fr H1 _ s1 p1 R1 (slots_set (x.mono s1 p1) (.int _))⟩
    | _ => cases eb
  | _ => cases ea
theorem ss_aug_add {i : Nat} {x : Str} {pos' : Pos} (hN : X.N.Nodup) (hi : X.N[i]? = some x) (hx : Loc X.env.scope x) (he : SE X (cE E) e d) (hf : X.fn x = true ∨ X.env.scope.names.lookup x = some .local := by first | exact .inl rfl | exact .inr rfl | assumption) :
    SS X E (.AugAssign (.Name x pos') .Add e pos) (dAug_add i d) := ss_aug hN hi hx he ip_add hf
theorem ss_aug_sub {i : Nat} {x : Str} {pos' : Pos} (hN : X.N.Nodup) (hi : X.N[i]? = some x) (hx : Loc X.env.scope x) (he : SE X (cE E) e d) (hf : X.fn x = true ∨ X.env.scope.names.lookup x = some .local := by first | exact .inl rfl | exact .inr rfl | assumption) :
    SS X E (.AugAssign (.Name x pos') .Sub e pos) (dAug_sub i d) := ss_aug hN hi hx he ip_sub hf
end
def spLaw (K : PySem.W.Frag) : Sp := fun vs H Q _ => ∃ (a : Addr) (ns : List Int), vs = [.ref a] ∧ SqL K H a (ns.map V.int) ∧ ns.length ≤ 63 ∧ Q = fun v _ => v = .bl true
def True1 (F : Fn) : Prop := ∀ ns : List Int, ns.length ≤ 63 → ∃ h', F [.brw (ns.map DV.int)] [] = .ok (.bl true) h'
theorem reps_ints {K : PySem.W.Frag} {Hb : Hp} {ρ : List Addr} : ∀ ns : List Int, Reps K Hb ρ (ns.map V.int) (ns.map DV.int)
  | [] => .nil
  | n :: ns => .cons (.int n) (reps_ints ns)
def isTupO : HO → Bool
  | .tup _ => true
  | _ => false
def noTup (H : Hp) : Hp := fun b => (H b).bind fun o => if isTupO o = true then none else some o
theorem noTup_some {H : Hp} {b : Addr} {o : HO} (q : noTup H b = some o) : H b = some o ∧ ∀ xs, o ≠ .tup xs := by
  obtain ⟨u, e1, e2⟩ := Option.bind_eq_some_iff.mp q
  by_cases h : isTupO u = true
  · rw [if_pos h] at e2; cases e2
  · rw [if_neg h] at e2; cases e2
    exact ⟨e1, fun xs z => h (by rw [z]; rfl)⟩
theorem noTup_get {H : Hp} {b : Addr} {o : HO} (q : H b = some o) (h : isTupO o = false) : noTup H b = some o := by
  unfold noTup
  rw [q]
  show (if isTupO o = true then none else some o) = some o
  rw [h]; rfl
theorem noTup_sql {K : PySem.W.Frag} {H : Hp} {a : Addr} {xs : List V} (h : SqL K H a xs) : SqL K (noTup H) a xs := by
  rcases h with (h | ⟨o, h⟩) | h
  · exact .inl (.inl (noTup_get h rfl))
  · exact .inl (.inr ⟨o, noTup_get h rfl⟩)
  · exact .inr h
theorem law_mk {P : Program} {w : World} {K : PySem.W.Frag} {mg : Str → Option Value} {x : Str} {k : Nat} {fa : Addr} {F : Fn} (hF : True1 F)
    (G : ∃ fd : FuncData, (∀ (s : Shared) (v : Value), BindsTo s fd ⟨[v], []⟩ [(x, v)]) ∧ ∀ base : Heap, K.In base → base.Ns mainGlobals mg → FnOk P w K mg base (L2.CX P w) k fa fd [x] (spD K mg 1 F)) :
    ∃ fd : FuncData, (∀ (s : Shared) (v : Value), BindsTo s fd ⟨[v], []⟩ [(x, v)]) ∧ ∀ base : Heap, K.In base → base.Ns mainGlobals mg → FnOk P w K mg base (L2.CX P w) k fa fd [x] (spLaw K) := by
  obtain ⟨fd, hb, hG⟩ := G
  refine ⟨fd, hb, fun base h1 h2 => (hG base h1 h2).imp fun vs H Q E h => ?_⟩
  obtain ⟨a, ns, rfl, hS, hl, rfl⟩ := h
  obtain ⟨h', e⟩ := hF ns hl
  refine ⟨rfl, fun _ => none, [], noTup H, [], [.brw (ns.map DV.int)], ⟨fun _ _ q => (by cases q), fun b o q => (noTup_some q).1, fun _ _ _ => rfl, rfl, fun n a c q _ => (by cases q), fun n a q => (by cases q), fun n m a q _ => (by cases q), fun b o q => (noTup_some q).2⟩, .cons (.brw (noTup_sql hS) (reps_ints ns)) .nil, ?_⟩
  rw [e]
  intro Hb' ρ' H' v _ _ _ r
  cases r
  rfl
theorem noOut {P : Program} (w : World) (H : Hp) (s : Shared) (e : Value) (s' : Shared) (h : L2.CX P w [] H s (fun _ _ _ => False) e s') : False := by
  obtain ⟨_, _, _, _, _, _, _, _, _, _, _, _, z⟩ := h
  exact z.elim
end DL
namespace DL
open PySem PySem.Spec PyProof.Rows L2

theorem nrfl {α : Sort _} {a b : α} (h : a = b) : a = b := h
section
variable {α β : Type} {h : DH} {σ : DSt} {d d1 d2 da db dc dt de : DE} {s1 s2 s3 db' : DS} {dr ds src : DA}
@[simp] theorem bind_ok (a : α) (f : α → DH → Res β) : (Res.ok a h).bind f = f a h := nrfl rfl
@[simp] theorem bind_exc (c : Str) (f : α → DH → Res β) : (Res.exc c h).bind f = .exc c h := nrfl rfl
@[simp] theorem bind_bad (f : α → DH → Res β) : (Res.bad).bind f = .bad := nrfl rfl
@[simp] theorem ofO_some (a : α) : ofO (some a) h = .ok a h := nrfl rfl
@[simp] theorem chk_true (r : Res α) : chk true r = r := nrfl rfl
@[simp] theorem brB_true (r1 r2 : Res α) : brB (.bl true) r1 r2 = r1 := nrfl rfl
@[simp] theorem brB_false (r1 r2 : Res α) : brB (.bl false) r1 r2 = r2 := nrfl rfl
theorem brB_bl (b : Bool) (r1 r2 : Res α) : brB (.bl b) r1 r2 = if b = true then r1 else r2 := by cases b <;> rfl
@[simp] theorem dSeq_ap : dSeq s1 s2 σ h = (s1 σ h).bind (Fl.seq s2) := nrfl rfl
@[simp] theorem seq_next : Fl.seq s2 (.next σ) h = s2 σ h := nrfl rfl
@[simp] theorem seq_ret (w : DV) : Fl.seq s2 (.ret w) h = .ok (.ret w) h := nrfl rfl
@[simp] theorem seq_brk : Fl.seq s2 (.brk σ) h = .ok (.brk σ) h := nrfl rfl
@[simp] theorem seq_cont : Fl.seq s2 (.cont σ) h = .ok (.cont σ) h := nrfl rfl
@[simp] theorem dNext_ap : dNext σ h = .ok (.next σ) h := nrfl rfl
@[simp] theorem dBrk_ap : dBrk σ h = .ok (.brk σ) h := nrfl rfl
@[simp] theorem dCont_ap : dCont σ h = .ok (.cont σ) h := nrfl rfl
@[simp] theorem dExpr_ap : dExpr d σ h = (d σ h).bind fun _ h1 => .ok (.next σ) h1 := nrfl rfl
@[simp] theorem dRet_ap : dRet d σ h = (d σ h).bind fun w h1 => chk (held w) (.ok (.ret w) h1) := nrfl rfl
@[simp] theorem dRetN_ap : dRetN σ h = .ok (.ret .non) h := nrfl rfl
@[simp] theorem dIfS_ap : dIfS dt s1 s2 σ h = (dt σ h).bind fun b h1 => brB b (s1 σ h1) (s2 σ h1) := nrfl rfl
@[simp] theorem dSet_ap (i : Nat) : dSet i d σ h = (d σ h).bind fun w h1 => chk (held w) (.ok (.next (setS i w σ)) h1) := nrfl rfl
@[simp] theorem dRetV_ap (i : Nat) : dRetV i σ h = (ofO (getV (frzS i σ) i) h).bind fun w h1 => chk (held w) (.ok (.ret w) h1) := nrfl rfl
@[simp] theorem dSetV_ap (i j : Nat) : dSetV i j σ h = (ofO (getV (frzS j σ) j) h).bind fun w h1 => chk (held w) (.ok (.next (setS i w (frzS j σ))) h1) := nrfl rfl
@[simp] theorem dRaise_ap (c : Str) : dRaise c σ h = .exc c h := nrfl rfl
@[simp] theorem dAsg_ap (tf : TF) : dAsg tf d σ h = (d σ h).bind fun w h1 => chk (held w) ((ofO (tf w σ) h1).bind fun σ' h2 => .ok (.next σ') h2) := nrfl rfl
@[simp] theorem dFor_ap (tf : TF) : dFor src tf s1 σ h = (src σ h).bind fun ws h1 => loopF tf s1 ws σ h1 := nrfl rfl
@[simp] theorem dForV_ap (i : Nat) (tf : TF) : dForV i src tf s1 σ h = dFor src tf s1 (frzS i σ) h := nrfl rfl
@[simp] theorem loopF_nil (tf : TF) : loopF tf s1 [] σ h = .ok (.next σ) h := nrfl rfl
theorem loopF_cons (tf : TF) (w : DV) (ws : List DV) : loopF tf s1 (w :: ws) σ h = (ofO (tf w σ) h).bind fun σ1 h1 => (s1 σ1 h1).bind (Fl.turn (loopF tf s1 ws) dNext) := rfl
@[simp] theorem turn_next : Fl.turn s1 s2 (.next σ) h = s1 σ h := nrfl rfl
@[simp] theorem turn_cont : Fl.turn s1 s2 (.cont σ) h = s1 σ h := nrfl rfl
@[simp] theorem turn_brk : Fl.turn s1 s2 (.brk σ) h = s2 σ h := nrfl rfl
@[simp] theorem turn_ret (w : DV) : Fl.turn s1 s2 (.ret w) h = .ok (.ret w) h := nrfl rfl
@[simp] theorem dC_ap (w : DV) : dC w σ h = .ok w h := nrfl rfl
@[simp] theorem dVar_ap (i : Nat) : dVar i σ h = ofO (getS σ i) h := nrfl rfl
@[simp] theorem dOp_ap (g : DV → DV → Option DV) : dOp g da db σ h = (da σ h).bind fun a h1 => (db σ h1).bind fun b h2 => ofO (g a b) h2 := nrfl rfl
@[simp] theorem dUn_ap (g : DV → Option DV) : dUn g da σ h = (da σ h).bind fun a h1 => ofO (g a) h1 := nrfl rfl
@[simp] theorem daNil_ap : daNil σ h = .ok [] h := nrfl rfl
@[simp] theorem daCons_ap : daCons d dr σ h = (d σ h).bind fun w h1 => (dr σ h1).bind fun ws h2 => .ok (w :: ws) h2 := nrfl rfl
@[simp] theorem dFn_ap (g : List DV → DH → Option DV) : dFn g dr σ h = (dr σ h).bind fun ws h1 => ofO (g ws h1) h1 := nrfl rfl
@[simp] theorem dCall_ap (n : Nat) (F : Fn) : dCall n F dr σ h = (dr σ h).bind fun ws h1 => chk (ws.length == n) (F ws h1) := nrfl rfl
@[simp] theorem dAnd_ap : dAnd da db σ h = (da σ h).bind fun a h1 => brB a (db σ h1) (.ok (.bl false) h1) := nrfl rfl
@[simp] theorem dOr_ap : dOr da db σ h = (da σ h).bind fun a h1 => brB a (.ok (.bl true) h1) (db σ h1) := nrfl rfl
@[simp] theorem dNot_ap : dNot da σ h = (da σ h).bind fun a h1 => brB a (.ok (.bl false) h1) (.ok (.bl true) h1) := nrfl rfl
@[simp] theorem dIf_ap : dIf dt da db σ h = (dt σ h).bind fun a h1 => brB a (da σ h1) (db σ h1) := nrfl rfl
@[simp] theorem dTup_ap : dTup dr σ h = (dr σ h).bind fun ws h1 => chk (heldAll ws) (chk (le_cap ws.length) (.ok (.tup ws) h1)) := nrfl rfl
@[simp] theorem dLst_ap : dLst dr σ h = (dr σ h).bind fun ws h1 => chk (heldAll ws) (chk (le_cap ws.length) (.ok (.lst ws) h1)) := nrfl rfl
@[simp] theorem dChain_ap (g g' : DV → DV → Option DV) : dChain g g' da db dc σ h = (da σ h).bind fun a h1 => (db σ h1).bind fun b h2 => (ofO (g a b) h2).bind fun t h3 => brB t ((dc σ h3).bind fun c h4 => ofO (g' b c) h4) (.ok (.bl false) h3) := nrfl rfl
@[simp] theorem doN_ap : doN σ h = .ok none h := nrfl rfl
@[simp] theorem doS_ap : doS d σ h = (d σ h).bind fun w h1 => (ofO (asI w) h1).bind fun i h2 => .ok (some i) h2 := nrfl rfl
@[simp] theorem dSl_ap (g : DV → Option Int → Option Int → Option DV) (dl dh : DO) : dSl g d dl dh σ h = (d σ h).bind fun w h1 => (dl σ h1).bind fun lo h2 => (dh σ h2).bind fun hi h3 => ofO (g w lo hi) h3 := nrfl rfl
@[simp] theorem dKIn_ap (kvs : List (Int × Int)) : dKIn kvs da σ h = (da σ h).bind fun a h1 => ofO (gKIn kvs a .non) h1 := nrfl rfl
@[simp] theorem dKIx_ap (kvs : List (Int × Int)) : dKIx kvs da σ h = (da σ h).bind fun a h1 => ofO (gKIx kvs .non a) h1 := nrfl rfl
@[simp] theorem dComp_ap (tf : TF) (vs : List Nat) : dComp src tf dt de vs σ h = (src σ h).bind fun ws h1 => chk (le_cap ws.length) ((noX (loopC tf dt de (wipeD σ vs) ws h1)).bind fun rs h2 => .ok (.lst rs) h2) := nrfl rfl
@[simp] theorem noX_ok (a : α) : noX (.ok a h) = .ok a h := nrfl rfl
@[simp] theorem loopC_nil (tf : TF) : loopC tf dt de σ [] h = .ok [] h := nrfl rfl
theorem loopC_cons (tf : TF) (w : DV) (ws : List DV) : loopC tf dt de σ (w :: ws) h = (ofO (tf w σ) h).bind fun σ1 h1 => (dt σ1 h1).bind fun b h2 => brB b ((de σ1 h2).bind fun x h3 => chk (held x) ((loopC tf dt de σ ws h3).bind fun r h4 => .ok (x :: r) h4)) (loopC tf dt de σ ws h2) := rfl
@[simp] theorem dYes_ap : dYes σ h = .ok (.bl true) h := nrfl rfl
@[simp] theorem dSeqOf_ap : dSeqOf d σ h = (d σ h).bind fun w h1 => ofO (seqOf w) h1 := nrfl rfl
@[simp] theorem dHeld_ap : dHeld d σ h = (d σ h).bind fun w h1 => ofO (heldSeq w) h1 := nrfl rfl
@[simp] theorem dSlot_ap (i : Nat) : dSlot i σ h = ofO ((getV σ i).bind seqOf) h := nrfl rfl
@[simp] theorem dSrc_ap (g : List DV → Option (List DV)) : dSrc g dr σ h = (dr σ h).bind fun ws h1 => ofO (g ws) h1 := nrfl rfl
@[simp] theorem dNewL_ap (i : Nat) : dNewL i dr σ h = (dr σ h).bind fun ws h1 => chk (heldAll ws) (chk (le_cap ws.length) (.ok (.next (setO i ws σ)) h1)) := nrfl rfl
@[simp] theorem dNewC_ap (i : Nat) : dNewC i dr σ h = (dr σ h).bind fun ws h1 => chk (heldAll ws) (chk (le_cap ws.length) (.ok (.next (setS i (.ref h1.length) σ)) (h1 ++ [.lst ws]))) := nrfl rfl
@[simp] theorem dMut_ap (i : Nat) (g : DV → List DV → Option (List DV)) : dMut i g dr σ h = chk (isL i σ h) ((dr σ h).bind fun ws h1 => (ofO (one1 ws) h1).bind fun w h2 => mutS i (g w) σ h2) := nrfl rfl
@[simp] theorem finish_next : finish (.next σ) h = .ok .non h := nrfl rfl
@[simp] theorem finish_ret (w : DV) : finish (.ret w) h = .ok w h := nrfl rfl
@[simp] theorem runF0 (m : Nat) : runF 0 m s1 [] h = (s1 (List.replicate m .un) h).bind finish := nrfl rfl
@[simp] theorem runF1 (m : Nat) (a : DV) : runF 1 m s1 [a] h = (s1 (.val a :: List.replicate (m - 1) .un) h).bind finish := nrfl rfl
@[simp] theorem runF2 (m : Nat) (a b : DV) : runF 2 m s1 [a, b] h = (s1 (.val a :: .val b :: List.replicate (m - 2) .un) h).bind finish := nrfl rfl
@[simp] theorem runF3 (m : Nat) (a b c : DV) : runF 3 m s1 [a, b, c] h = (s1 (.val a :: .val b :: .val c :: List.replicate (m - 3) .un) h).bind finish := nrfl rfl
@[simp] theorem runF4 (m : Nat) (a b c e : DV) : runF 4 m s1 [a, b, c, e] h = (s1 (.val a :: .val b :: .val c :: .val e :: List.replicate (m - 4) .un) h).bind finish := nrfl rfl
end
theorem loopC_map {tf : TF} {de : DE} {σ : DSt} {h : DH} (f : DV → DV) : ∀ (ws : List DV), (∀ w ∈ ws, ∃ σ1, tf w σ = some σ1 ∧ de σ1 h = .ok (f w) h ∧ held (f w) = true) → loopC tf dYes de σ ws h = .ok (ws.map f) h
  | [], _ => rfl
  | w :: ws, hw => by
    obtain ⟨σ1, e1, e2, e3⟩ := hw w List.mem_cons_self
    rw [loopC_cons, e1]
    simp [e2, e3, loopC_map f ws fun w' hw' => hw w' (List.mem_cons_of_mem _ hw')]
theorem loopC_filter {tf : TF} {dt de : DE} {σ : DSt} {h : DH} (p : DV → Bool) (f : DV → DV) : ∀ (ws : List DV), (∀ w ∈ ws, ∃ σ1, tf w σ = some σ1 ∧ dt σ1 h = .ok (.bl (p w)) h ∧ (p w = true → de σ1 h = .ok (f w) h ∧ held (f w) = true)) → loopC tf dt de σ ws h = .ok ((ws.filter p).map f) h
  | [], _ => rfl
  | w :: ws, hw => by
    obtain ⟨σ1, e1, e2, e3⟩ := hw w List.mem_cons_self
    have ih := loopC_filter p f ws fun w' hw' => hw w' (List.mem_cons_of_mem _ hw')
    rw [loopC_cons, e1]
    cases hp : p w with
    | true =>
      obtain ⟨e4, e5⟩ := e3 hp
      simp [e2, hp, e4, e5, ih]
    | false => simp [e2, hp, ih]
abbrev R (ns : List Int) : DV := .tup (ns.map .int)
abbrev Sp' (rs : List (List Int)) : DV := .tup (rs.map R)
theorem pairs_map {α β : Type} (f : α → DV) (g : β → DV) : ∀ (xs : List α) (ys : List β), pairs (xs.map f) (ys.map g) = (xs.zip ys).map fun p => .tup [f p.1, g p.2]
  | [], _ => rfl
  | _ :: _, [] => rfl
  | x :: xs, y :: ys => congrArg (_ :: ·) (pairs_map f g xs ys)
theorem allI_map : ∀ ns : List Int, allI (ns.map .int) = some ns
  | [] => rfl
  | n :: ns => by
    show ((asI (.int n)).bind fun i => (allI (ns.map .int)).map fun is => i :: is) = _
    rw [allI_map ns]
    rfl
theorem allB_map : ∀ bs : List Bool, allB (bs.map .bl) = some bs
  | [] => rfl
  | b :: bs => by
    show ((asB (.bl b)).bind fun i => (allB (bs.map .bl)).map fun is => i :: is) = _
    rw [allB_map bs]
    rfl
theorem toPys_map {α : Type} (f : α → DV) (g : α → PyData) (hf : ∀ a, toPy (f a) = some (g a)) : ∀ xs : List α, toPys (xs.map f) = some (xs.map g)
  | [] => rfl
  | x :: xs => by
    show ((toPy (f x)).bind fun d => (toPys (xs.map f)).map fun ds => d :: ds) = _
    rw [hf, toPys_map f g hf xs]
    rfl
@[simp] theorem gLen_brw (ws : List DV) (h : DH) : gLen [.brw ws] h = some (.int (ws.length : Nat)) := nrfl rfl
@[simp] theorem gLen_lst (ws : List DV) (h : DH) : gLen [.lst ws] h = some (.int (ws.length : Nat)) := nrfl rfl
@[simp] theorem gLen_tup (ws : List DV) (h : DH) : gLen [.tup ws] h = some (.int (ws.length : Nat)) := nrfl rfl
theorem gIx_nat {w : DV} {ws : List DV} {v : DV} {k : Nat} (e : seqOf w = some ws) (h : ws[k]? = some v) : gIx w (.int (k : Nat)) = some v := by
  show (seqOf w).bind (fun ws => atI ws (k : Nat)) = some v
  rw [e]
  exact atI_nat h
@[simp] theorem gI_int (f : Int → Int → Option DV) (i j : Int) : gI f (.int i) (.int j) = f i j := nrfl rfl
@[simp] theorem gAdd_int (i j : Int) : gAdd (.int i) (.int j) = some (.int (i + j)) := nrfl rfl
@[simp] theorem gSub_int (i j : Int) : gSub (.int i) (.int j) = some (.int (i - j)) := nrfl rfl
theorem gMul_int {i j : Int} (h : CMul i j) : gMul (.int i) (.int j) = some (.int (i * j)) := by
  show gOr (gI fun i j => if CMul i j then some (.int (i * j)) else none) _ (.int i) (.int j) = _
  unfold gOr
  rw [gI_int, if_pos h]
theorem gMod_int {i j : Int} (h : 0 < j) : gMod (.int i) (.int j) = some (.int (i % j)) := if_pos h
theorem gFdiv_int {i j : Int} (h : CDiv i j) : gFdiv (.int i) (.int j) = some (.int (i / j)) := if_pos h
theorem gPow_int {i j : Int} (h : CPow i j) : gPow (.int i) (.int j) = some (.int (i ^ j.toNat)) := if_pos h
@[simp] theorem gLt_int (i j : Int) : gLt (.int i) (.int j) = some (.bl (decide (i < j))) := nrfl rfl
@[simp] theorem gLe_int (i j : Int) : gLe (.int i) (.int j) = some (.bl (decide (i ≤ j))) := nrfl rfl
@[simp] theorem gGt_int (i j : Int) : gGt (.int i) (.int j) = some (.bl (decide (j < i))) := nrfl rfl
@[simp] theorem gGe_int (i j : Int) : gGe (.int i) (.int j) = some (.bl (decide (j ≤ i))) := nrfl rfl
@[simp] theorem gIs_bl (a b : Bool) : gIs (.bl a) (.bl b) = some (.bl (decide (a = b))) := nrfl rfl
@[simp] theorem gIsNot_bl (a b : Bool) : gIsNot (.bl a) (.bl b) = some (.bl (!decide (a = b))) := nrfl rfl
@[simp] theorem getS_0 (w : DV) (r : DSt) : getS (.val w :: r) 0 = some w := nrfl rfl
@[simp] theorem getS_own0 (w : List DV) (r : DSt) : getS (.own w :: r) 0 = some (.brw w) := nrfl rfl
@[simp] theorem getS_s (q : SV) (r : DSt) (i : Nat) : getS (q :: r) (i + 1) = getS r i := by
  unfold getS; rw [List.getElem?_cons_succ]
@[simp] theorem setS_0 (q : SV) (r : DSt) (w : DV) : setS 0 w (q :: r) = .val w :: r := nrfl rfl
@[simp] theorem setS_s (q : SV) (r : DSt) (i : Nat) (w : DV) : setS (i + 1) w (q :: r) = q :: setS i w r := nrfl rfl
@[simp] theorem setO_0 (q : SV) (r : DSt) (w : List DV) : setO 0 w (q :: r) = .own w :: r := nrfl rfl
@[simp] theorem setO_s (q : SV) (r : DSt) (i : Nat) (w : List DV) : setO (i + 1) w (q :: r) = q :: setO i w r := nrfl rfl
@[simp] theorem frzS_0 (w : DV) (r : DSt) : frzS 0 (.val w :: r) = .val w :: r := nrfl rfl
@[simp] theorem frzS_own (w : List DV) (r : DSt) : frzS 0 (.own w :: r) = .val (.lst w) :: r := nrfl rfl
@[simp] theorem frzS_un (r : DSt) : frzS 0 (.un :: r) = .un :: r := nrfl rfl
@[simp] theorem frzS_s (q : SV) (r : DSt) (i : Nat) : frzS (i + 1) (q :: r) = q :: frzS i r := by
  unfold frzS
  rw [List.getElem?_cons_succ]
  cases r[i]? with
  | none => rfl
  | some q => cases q <;> rfl
@[simp] theorem getV_0 (w : DV) (r : DSt) : getV (.val w :: r) 0 = some w := nrfl rfl
@[simp] theorem getV_s (q : SV) (r : DSt) (i : Nat) : getV (q :: r) (i + 1) = getV r i := by
  unfold getV; rw [List.getElem?_cons_succ]
@[simp] theorem held_int (i : Int) : held (.int i) = true := nrfl rfl
@[simp] theorem held_bl (i : Bool) : held (.bl i) = true := nrfl rfl
@[simp] theorem held_non : held .non = true := nrfl rfl
@[simp] theorem held_str (x : Str) : held (.str x) = true := nrfl rfl
@[simp] theorem held_tup (ws : List DV) : held (.tup ws) = true := nrfl rfl
@[simp] theorem held_lst (ws : List DV) : held (.lst ws) = true := nrfl rfl
@[simp] theorem held_ref (n : Nat) : held (.ref n) = true := nrfl rfl
@[simp] theorem heldAll_nil : heldAll [] = true := nrfl rfl
@[simp] theorem heldAll_cons (w : DV) (ws : List DV) : heldAll (w :: ws) = (held w && heldAll ws) := nrfl rfl
theorem le_cap_of {n : Nat} (h : n ≤ 100000) : le_cap n = true := decide_eq_true h
@[simp] theorem asI_int (i : Int) : asI (.int i) = some i := nrfl rfl
@[simp] theorem seqOf_tup (ws : List DV) : seqOf (.tup ws) = some ws := nrfl rfl
@[simp] theorem seqOf_lst (ws : List DV) : seqOf (.lst ws) = some ws := nrfl rfl
@[simp] theorem seqOf_brw (ws : List DV) : seqOf (.brw ws) = some ws := nrfl rfl
@[simp] theorem heldSeq_tup (ws : List DV) : heldSeq (.tup ws) = some ws := nrfl rfl
@[simp] theorem heldSeq_lst (ws : List DV) : heldSeq (.lst ws) = some ws := nrfl rfl
@[simp] theorem gTuple_lst (ws : List DV) (h : DH) : gTuple [.lst ws] h = some (.tup ws) := nrfl rfl
@[simp] theorem gTuple_brw (ws : List DV) (h : DH) : gTuple [.brw ws] h = some (.tup ws) := nrfl rfl
@[simp] theorem gTuple_tup (ws : List DV) (h : DH) : gTuple [.tup ws] h = some (.tup ws) := nrfl rfl
@[simp] theorem gList_tup (ws : List DV) (h : DH) : gList [.tup ws] h = some (.lst ws) := nrfl rfl
@[simp] theorem gList_lst (ws : List DV) (h : DH) : gList [.lst ws] h = some (.lst ws) := nrfl rfl
@[simp] theorem gList_brw (ws : List DV) (h : DH) : gList [.brw ws] h = some (.lst ws) := nrfl rfl
@[simp] theorem tfN_ap (i : Nat) (w : DV) (σ : DSt) : tfN i w σ = some (setS i w σ) := nrfl rfl
theorem gRange1_nat {n : Nat} (h : n ≤ 100000) : gRange1 [.int (n : Nat)] = some (intsFrom 0 n) := by
  show (if -1000000 ≤ (n : Int) ∧ (n : Int) ≤ 1000000 then some (intsFrom 0 (n : Int).toNat) else none) = _
  rw [if_pos (by constructor <;> omega), Int.toNat_natCast]
@[simp] theorem brB_bl' (b : Bool) {α : Type} (r1 r2 : Res α) : brB (.bl b) r1 r2 = if b = true then r1 else r2 := brB_bl b r1 r2
structure Enc {α : Type} [DecidableEq α] (f : α → DV) (g : α → PyData) (d : Nat) : Prop where
  py : ∀ a, toPy (f a) = some (g a)
  lay : ∀ a, (g a).canLay0 = true
  dep : ∀ a, (g a).depth ≤ d
  eqv : ∀ a b, PyData.eqv (g a) (g b) = decide (a = b)
theorem enc_int : Enc DV.int PyData.int 0 := ⟨fun _ => rfl, fun _ => rfl, fun _ => Nat.le_refl _, fun a b => by
  show (a == b) = decide (a = b)
  exact Bool.beq_eq_decide_eq a b⟩
section
variable {α : Type} [DecidableEq α] {f f' : α → DV} {g : α → PyData} {d d' : Nat}
theorem layAll (h : ∀ a, (g a).canLay0 = true) : ∀ xs : List α, PyData.canLayAll0 (xs.map g) = true
  | [] => rfl
  | x :: xs => by
    show ((g x).canLay0 && PyData.canLayAll0 (xs.map g)) = true
    rw [h, layAll h xs]
    rfl
theorem depAll (h : ∀ a, (g a).depth ≤ d) : ∀ xs : List α, PyData.depthAll (xs.map g) ≤ d
  | [] => Nat.zero_le _
  | x :: xs => by
    show max (g x).depth (PyData.depthAll (xs.map g)) ≤ d
    exact Nat.max_le.mpr ⟨h x, depAll h xs⟩
theorem eqvAll_map (h : ∀ a b, PyData.eqv (g a) (g b) = decide (a = b)) : ∀ xs ys : List α, PyData.eqvAll (xs.map g) (ys.map g) = decide (xs = ys)
  | [], [] => rfl
  | [], _ :: _ => rfl
  | _ :: _, [] => rfl
  | x :: xs, y :: ys => by
    show (PyData.eqv (g x) (g y) && PyData.eqvAll (xs.map g) (ys.map g)) = _
    rw [h, eqvAll_map h xs ys]
    by_cases e : x = y <;> by_cases e' : xs = ys <;> simp [e, e']
theorem enc_tup (E : Enc f g d) : Enc (fun xs : List α => DV.tup (xs.map f)) (fun xs => .tuple (xs.map g)) (d + 1) :=
  ⟨fun xs => by show (toPys (xs.map f)).map PyData.tuple = _; rw [toPys_map f g E.py]; rfl, fun xs => layAll E.lay xs, fun xs => Nat.succ_le_succ (depAll E.dep xs), fun xs ys => eqvAll_map E.eqv xs ys⟩
theorem enc_lst (E : Enc f g d) : Enc (fun xs : List α => DV.lst (xs.map f)) (fun xs => .list (xs.map g)) (d + 1) :=
  ⟨fun xs => by show (toPys (xs.map f)).map PyData.list = _; rw [toPys_map f g E.py]; rfl, fun xs => layAll E.lay xs, fun xs => Nat.succ_le_succ (depAll E.dep xs), fun xs ys => eqvAll_map E.eqv xs ys⟩
theorem enc_brw (E : Enc f g d) : Enc (fun xs : List α => DV.brw (xs.map f)) (fun xs => .list (xs.map g)) (d + 1) :=
  ⟨fun xs => by show (toPys (xs.map f)).map PyData.list = _; rw [toPys_map f g E.py]; rfl, fun xs => layAll E.lay xs, fun xs => Nat.succ_le_succ (depAll E.dep xs), fun xs ys => eqvAll_map E.eqv xs ys⟩
theorem enc_py (E : Enc f g d) (hd : d ≤ 64) (a : α) : pyOf (f a) = some (g a) := by
  unfold pyOf
  rw [E.py]
  show (if SeqAt.shaped (g a) = true then some (g a) else none) = _
  rw [if_pos]
  unfold SeqAt.shaped
  rw [E.lay, decide_eq_true (Nat.le_trans (E.dep a) hd)]
  rfl
theorem enc_eq (E : Enc f g d) (E' : Enc f' g d') (hd : d ≤ 64 := by decide) (hd' : d' ≤ 64 := by decide) (a b : α) : gEq (f a) (f' b) = some (.bl (decide (a = b))) := by
  unfold gEq
  rw [enc_py E hd, enc_py E' hd']
  show some (DV.bl (PyData.eqv (g a) (g b))) = _
  rw [E.eqv]
theorem enc_ne (E : Enc f g d) (E' : Enc f' g d') (hd : d ≤ 64 := by decide) (hd' : d' ≤ 64 := by decide) (a b : α) : gNe (f a) (f' b) = some (.bl (!decide (a = b))) := by
  unfold gNe
  rw [enc_py E hd, enc_py E' hd']
  show some (DV.bl (!PyData.eqv (g a) (g b))) = _
  rw [E.eqv]
theorem any_mem (h : ∀ a b, PyData.eqv (g a) (g b) = decide (a = b)) (a : α) : ∀ xs : List α, ((xs.map g).any fun z => PyData.eqv z (g a)) = decide (a ∈ xs)
  | [] => rfl
  | x :: xs => by
    rw [List.map_cons, List.any_cons, h, any_mem h a xs]
    by_cases e : x = a
    · simp [e]
    · have e2 : ¬ a = x := fun z => e z.symm
      by_cases e' : a ∈ xs <;> simp [e, e2, e']
theorem enc_in (E : Enc f g d) (hd : d + 1 ≤ 64 := by decide) (a : α) (xs : List α) : gIn (f a) (.lst (xs.map f)) = some (.bl (decide (a ∈ xs))) := by
  unfold gIn
  rw [enc_py E (by omega), enc_py (enc_lst E) hd xs]
  show some (DV.bl ((xs.map g).any fun z => PyData.eqv z (g a))) = _
  rw [any_mem E.eqv]
theorem enc_notin (E : Enc f g d) (hd : d + 1 ≤ 64 := by decide) (a : α) (xs : List α) : gNotIn (f a) (.lst (xs.map f)) = some (.bl (!decide (a ∈ xs))) := by
  unfold gNotIn
  rw [enc_py E (by omega), enc_py (enc_lst E) hd xs]
  show some (DV.bl (!(xs.map g).any fun z => PyData.eqv z (g a))) = _
  rw [any_mem E.eqv]
end
abbrev enc_row := enc_tup enc_int
abbrev enc_sp := enc_tup enc_row
end DL
namespace DL
open PySem PySem.Spec PyProof.Rows L2
def rSortedD (K : PySem.W.Frag) : List V → Hp → VK → Prop := fun vs H Q => ∃ (a : Addr) (bs : List (V × DV × PyData)), vs = [V.ref a] ∧ SqL K H a (bs.map (·.1)) ∧ (∀ b ∈ bs, Dp K H b.1 b.2.2) ∧ PySem.W.AllAlike (bs.map (·.2.2)) ∧ PySem.W.Sortable (bs.map (·.2.2)) ∧ (∀ b ∈ bs, b.2.2.depth ≤ 60) ∧
  ∀ p, H p = none → Q (.ref p) (upd H p (.lst ((bs.mergeSort (PySem.W.dataLe false (·.2.2))).map (·.1))))
theorem each_vals {β : Type} {f : β → V} : ∀ {bs : List β} {us : List Value}, Vals (bs.map f) us → PySem.W.EachIs (fun v b => RelV (f b) v) us bs
  | [], _, r => by cases r; exact .nil
  | b :: bs, _, r => by
    cases r with
    | cons r1 rr => exact .cons r1 (each_vals rr)
theorem vals_each {β : Type} {f : β → V} : ∀ {us : List Value} {bs : List β}, PySem.W.EachIs (fun v b => RelV (f b) v) us bs → Vals (bs.map f) us
  | _, _, .nil => .nil
  | _, _, .cons r1 rr => .cons r1 (vals_each rr)
theorem each_in {α β : Type} {R : α → β → Prop} {R' : α → β → Prop} : ∀ {us : List α} {bs : List β}, PySem.W.EachIs R us bs → (∀ v b, b ∈ bs → R v b → R' v b) → PySem.W.EachIs R' us bs
  | _, _, .nil, _ => .nil
  | _, _, .cons r1 rr, h => .cons (h _ _ List.mem_cons_self r1) (each_in rr fun v b hb => h v b (List.mem_cons_of_mem _ hb))
section
variable {X : Cx}
theorem cr_sortedD (hu : X.A.units + 64 < cLine) : CallR X (.builtin "sorted") (rSortedD X.K) := by
  intro pins s σ H vs us Q I r h
  obtain ⟨a, bs, rfl, hs, hd, hal, hk, hdep, q⟩ := h
  obtain ⟨its, rv, hl, hz⟩ := I.list hs
  rw [Vals.ref1 r]
  have e := each_vals rv
  have er : PySem.W.EachIs (fun v (b : V × DV × PyData) => ∃ as, Reads s.heap v b.2.2 as) its bs := each_in e fun v b hb rb => Dp.reads I b.2.2 b.1 v (hd b hb) rb
  have hz' : bs.length ≤ sizeLine := by rw [List.length_map] at hz; exact hz
  refine PySem.W.sorted_data (R := fun v (b : V × DV × PyData) => RelV b.1 v) (enc := fun b => b.2.2) hl.isList e er hal hk hz' (fun b hb => ?_) fun out ho eo => ?_
  · have := hdep b hb
    omega
  · obtain ⟨ep, he'⟩ := PyProof.Rows.sortedAll_at s.heap its out.toArray
    have ev := vals_each (f := fun b : V × DV × PyData => b.1) eo
    have hlen : ((bs.mergeSort (PySem.W.dataLe false fun b => b.2.2)).map (·.1)).length ≤ sizeLine := by
      rw [List.length_map, List.length_mergeSort]
      exact hz'
    exact ⟨.ref _, upd H (s.heap.objs.size + 1) (.lst ((bs.mergeSort (PySem.W.dataLe false fun b => b.2.2)).map (·.1))), I.laid (t' := s.toks) (fun _ _ => PyProof.Rows.sortedAll_old) (Nat.le_succ _) ⟨hlen, out, ep, ev, he'⟩, rfl, q _ (I.hok.fresh (Nat.le_succ _))⟩
end
def isTup1 : PyData → Bool
  | .tuple (_ :: _) => true
  | _ => false
def noTupNon : PyData → Bool
  | .tuple _ => false
  | .none => false
  | _ => true
def okSort (ds : List PyData) : Bool := (ds.all fun d => ds.all fun d' => PySem.W.alike d d') && ((ds.all isTup1 || ds.all noTupNon) && ds.all fun d => decide (d.depth ≤ 60))
def sortD (ws : List DV) (ds : List PyData) : List DV := ((ws.zip ds).mergeSort (PySem.W.dataLe false (·.2))).map (·.1)
def gSorted : List DV → DH → Option DV := g1 fun w _ => (lstOf w).bind fun ws => (toPys ws).bind fun ds => if okSort ds = true then some (.lst (sortD ws ds)) else none
theorem okSort_of {ds : List PyData} (h : okSort ds = true) : PySem.W.AllAlike ds ∧ PySem.W.Sortable ds ∧ ∀ d ∈ ds, d.depth ≤ 60 := by
  unfold okSort at h
  obtain ⟨h1, h⟩ := Bool.and_eq_true_iff.mp h
  obtain ⟨h2, h3⟩ := Bool.and_eq_true_iff.mp h
  refine ⟨fun d hd d' hd' => List.all_eq_true.mp (List.all_eq_true.mp h1 d hd) d' hd', ?_, fun d hd => of_decide_eq_true (List.all_eq_true.mp h3 d hd)⟩
  rcases Bool.or_eq_true_iff.mp h2 with h2 | h2
  · refine .inl fun d hd => ?_
    have := List.all_eq_true.mp h2 d hd
    cases d with
    | tuple xs =>
      cases xs with
      | nil => cases this
      | cons x r => exact ⟨x, r, rfl⟩
    | _ => cases this
  · refine .inr fun d hd => ?_
    have := List.all_eq_true.mp h2 d hd
    cases d with
    | tuple xs => cases this
    | none => cases this
    | _ => exact ⟨fun z => (nomatch z), fun xs z => (nomatch z)⟩
def zip3 : List V → List DV → List PyData → List (V × DV × PyData)
  | v :: vs, w :: ws, d :: ds => (v, w, d) :: zip3 vs ws ds
  | _, _, _ => []
theorem zip3_ok {K : PySem.W.Frag} {Hb : Hp} {ρ : List Addr} {H : Hp} : ∀ {vs : List V} {ws : List DV} {ds : List PyData}, Reps K Hb ρ vs ws → DpAll K H vs ds →
    (zip3 vs ws ds).map (·.1) = vs ∧ (zip3 vs ws ds).map (·.2) = ws.zip ds ∧ (zip3 vs ws ds).map (·.2.2) = ds ∧ ∀ b ∈ zip3 vs ws ds, Rep K Hb ρ b.1 b.2.1 ∧ Dp K H b.1 b.2.2 ∧ b.2.2 ∈ ds
  | _, _, _, .nil, .nil => ⟨rfl, rfl, rfl, fun b hb => absurd hb List.not_mem_nil⟩
  | _, _, _, .cons r rr, .cons d dd => by
    obtain ⟨h1, h2, h3, h4⟩ := zip3_ok rr dd
    refine ⟨congrArg (_ :: ·) h1, congrArg (_ :: ·) h2, congrArg (_ :: ·) h3, fun b hb => ?_⟩
    rcases List.mem_cons.mp hb with rfl | hb
    · exact ⟨r, d, List.mem_cons_self⟩
    · exact ⟨(h4 b hb).1, (h4 b hb).2.1, List.mem_cons_of_mem _ (h4 b hb).2.2⟩
theorem reps_of {K : PySem.W.Frag} {Hb : Hp} {ρ : List Addr} : ∀ {bs : List (V × DV × PyData)}, (∀ b ∈ bs, Rep K Hb ρ b.1 b.2.1) → Reps K Hb ρ (bs.map (·.1)) (bs.map (·.2.1))
  | [], _ => .nil
  | b :: bs, h => .cons (h b List.mem_cons_self) (reps_of fun b' hb => h b' (List.mem_cons_of_mem _ hb))
theorem osorted {X : Cx} (hu : X.A.units + 64 < cLine) : ∃ r, CallR X (.builtin "sorted") r ∧ CallD X r gSorted := ⟨_, cr_sortedD hu, cd1 fun Hb ρ Fr h H x a w Q R r1 e k => by
  obtain ⟨ws, e1, e⟩ := Option.bind_eq_some_iff.mp e
  obtain ⟨ds, e2, e⟩ := Option.bind_eq_some_iff.mp e
  by_cases ho : okSort ds = true
  · rw [if_pos ho] at e
    cases e
    obtain ⟨o1, o2, o3⟩ := okSort_of ho
    obtain ⟨p, ys, ex, hq, rr⟩ := lstR_of R r1 e1
    obtain ⟨z1, z2, z3, z4⟩ := zip3_ok rr (dps_of R rr e2)
    refine ⟨p, zip3 ys ws ds, by rw [ex], by rw [z1]; exact hq, fun b hb => (z4 b hb).2.1, by rw [z3]; exact o1, by rw [z3]; exact o2, fun b hb => o3 _ (z4 b hb).2.2, fun c hp => Pst.lst R k ?_ c hp⟩
    have e3 : sortD ws ds = ((zip3 ys ws ds).mergeSort (PySem.W.dataLe false (·.2.2))).map (·.2.1) := by
      unfold sortD
      rw [← z2, ← PySem.W.sort_maps (r := PySem.W.dataLe false fun b : V × DV × PyData => b.2.2) (fun b : V × DV × PyData => b.2) fun _ _ _ _ => rfl, List.map_map]
      rfl
    rw [e3]
    exact reps_of fun b hb => (z4 b ((List.mergeSort_perm _ _).mem_iff.mp hb)).1
  · rw [if_neg ho] at e
    cases e⟩
theorem b_sorted {X : Cx} {k : Nat} (hr : Room k X.A) : Blt X (.builtin "sorted") gSorted := ⟨osorted (by have := hr.un; omega)⟩
end DL
namespace DL
open PySem PySem.Spec PyProof.Rows L2
def loopC2 (tf : TF) (dt : DE) (src1 : DA) (tf1 : TF) (dt1 de : DE) (vs1 : List Nat) (σ : DSt) : List DV → DH → Res (List DV)
  | [], h => .ok [] h
  | w :: ws, h => (ofO (tf w σ) h).bind fun σ1 h1 => (dt σ1 h1).bind fun b h2 => brB b
      ((src1 σ1 h2).bind fun us h3 => chk (decide (us.length ≤ 300)) ((loopC tf1 dt1 de (wipeD σ1 vs1) us h3).bind fun r1 h4 => (loopC2 tf dt src1 tf1 dt1 de vs1 σ ws h4).bind fun r h5 => .ok (r1 ++ r) h5))
      (loopC2 tf dt src1 tf1 dt1 de vs1 σ ws h2)
def dComp2 (src : DA) (tf : TF) (dt : DE) (src1 : DA) (tf1 : TF) (dt1 de : DE) (vs vs1 : List Nat) : DE := fun σ h => (src σ h).bind fun ws h1 => chk (decide (ws.length ≤ 300)) ((noX (loopC2 tf dt src1 tf1 dt1 de vs1 (wipeD σ vs) ws h1)).bind fun rs h2 => .ok (.lst rs) h2)
theorem comp2_run {K : PySem.W.Frag} {mg : Str → Option Value} {E : L2.St → XK} {src src1 : DA} {tf tf1 : TF} {dt dt1 de : DE} {g g1 : TG} {vs vs1 : List Nat} (hg : GC K g tf vs) (hg1 : GC K g1 tf1 vs1) {s : L2.St} {H : Hp} {Q : VK} (k : tD K mg E (dComp2 src tf dt src1 tf1 dt1 de vs vs1) s H Q) :
    tLc2 (tI K mg E true src) g (tT K mg (fun _ => E0) dt) (tI K mg (fun _ => E0) false src1) g1 (tT K mg (fun _ => E0) dt1) (tD K mg (fun _ => E0) de) vs vs1 s H Q := by
  obtain ⟨Hb, ρ, F0, Fr, σ, h, R, x, k⟩ := k
  refine ⟨Hb, ρ, F0, Fr, σ, h, R, x, (Rz.bind k).imp (fun ws h1 k => ?_) fun _ _ z => z⟩
  obtain ⟨hz, k⟩ := Rz.chk k
  have k := Rz.noX (ex' := fun _ _ => False) ((Rz.bind k).imp (fun _ _ z => z) (fun _ _ z => z))
  have hz : ws.length ≤ 300 := of_decide_eq_true hz
  intro Hb1 ρ1 H1 J Iv s1 p1 R1 S iv D hD
  rw [if_pos rfl] at iv
  have hF : Fr D = none := R1.fr_fresh hD
  have hF0 : F0 D = none := by
    cases e : F0 D with
    | none => rfl
    | some o => have := x.fr _ _ e; rw [hF] at this; cases this
  refine ⟨fun i m H => m = ws.length - i ∧ i ≤ ws.length ∧ ∃ (Hb2 : Hp) (ρ2 : List Addr) (h : DH) (acc : List V) (ds : List DV), Same Hb1 Hb2 ∧ ρ1 <+: ρ2 ∧ Rel K Hb2 ρ2 (upd Fr D (.lst acc)) h H ∧ Hb2 D = none ∧ Reps K Hb2 ρ2 acc ds ∧ acc.length ≤ i * 300 ∧
      Rz (fun rs h' => Pst K Hb ρ Fr Q (.lst (ds ++ rs)) h') (fun _ _ => False) (loopC2 tf dt src1 tf1 dt1 de vs1 (wipeD σ vs) (ws.drop i) h),
    ⟨ws.length, rfl, Nat.zero_le _, Hb1, ρ1, h1, [], [], Same.refl _, List.prefix_refl _, R1.lend hD (.lst []), R1.hb_fresh hD, .nil, Nat.zero_le _, by rw [List.drop_zero]; exact k⟩, ?_⟩
  rintro i m H2 ⟨rfl, hi, Hb2, ρ2, h2, acc, ds, s2, p2, R2, hD2, rd, hacc, k2⟩
  have iv2 : Iv Hb2 ρ2 Fr := S.mono _ _ _ _ _ s2 p2 iv
  have g2 : ∀ {o : HO}, Same Fr (upd Fr D o) := same_lend hF
  by_cases hlt : i < ws.length
  · have hw : ws[i]? = some ws[i] := List.getElem?_eq_getElem hlt
    obtain ⟨hgo, hyl⟩ := S.go Hb2 ρ2 Fr _ h2 H2 i ws[i] iv2 g2 R2 hw
    refine .inr ⟨hgo, fun H' => i + 1 ≤ ws.length ∧ ∃ (Hb2 : Hp) (ρ2 : List Addr) (h : DH) (acc : List V) (ds : List DV), Same Hb1 Hb2 ∧ ρ1 <+: ρ2 ∧ Rel K Hb2 ρ2 (upd Fr D (.lst acc)) h H' ∧ Hb2 D = none ∧ Reps K Hb2 ρ2 acc ds ∧ acc.length ≤ (i + 1) * 300 ∧
      Rz (fun rs h' => Pst K Hb ρ Fr Q (.lst (ds ++ rs)) h') (fun _ _ => False) (loopC2 tf dt src1 tf1 dt1 de vs1 (wipeD σ vs) (ws.drop (i + 1)) h), fun H' z => ⟨ws.length - (i + 1), by omega, rfl, z⟩, fun v H3 y => ?_⟩
    obtain ⟨Hb3, s3, R3, r3⟩ := hyl v H3 y
    rw [List.drop_eq_getElem_cons hlt] at k2
    obtain ⟨σ', et, k2⟩ := Rz.ofO (Rz.bind k2)
    have k2 := Rz.bind k2
    have x3 : Slots K Hb3 ρ2 F0 Fr (wipeD σ vs) (wipe s vs) := slots_wipe ((x.mono s1 p1).mono (s2.trans s3) p2) vs
    refine hg Hb3 ρ2 F0 Fr _ σ' _ h2 H3 v ws[i] _ (R3.weak g2) x3 r3 et fun s' x' ew => ⟨ew.trans (wipe_idem fun _ z => z), ?_⟩
    refine ⟨Hb3, ρ2, F0, _, σ', h2, R3, slots_frame g2 x', k2.imp (fun b h3 k => ?_) fun _ _ z => z.elim⟩
    rcases Rz.brB k with ⟨eb, k⟩ | ⟨eb, k⟩
    · refine ⟨true, eb, fun Hb4 ρ4 H4 s4 p4 R4 => iteT ?_⟩
      have x4 := x'.mono s4 p4
      refine ⟨Hb4, ρ4, F0, _, σ', h3, R4, slots_frame g2 x4, (Rz.bind k).imp (fun us h4 k => ?_) fun _ _ z => z.elim⟩
      obtain ⟨hu, k⟩ := Rz.chk k
      have hu : us.length ≤ 300 := of_decide_eq_true hu
      have k := Rz.bind k
      intro Hb5 ρ5 H5 J1 Iv1 s5 p5 R5 S1 iv1
      rw [if_neg (by decide)] at iv1
      have hD5 : Hb5 D = none := R5.ap D _ upd_same
      have x5 := x4.mono s5 p5
      refine ⟨fun j m H => m = us.length - j ∧ j ≤ us.length ∧ ∃ (Hb6 : Hp) (ρ6 : List Addr) (h : DH) (acc1 : List V) (ds1 : List DV), Same Hb5 Hb6 ∧ ρ5 <+: ρ6 ∧ Rel K Hb6 ρ6 (upd Fr D (.lst acc1)) h H ∧ Hb6 D = none ∧ Reps K Hb6 ρ6 acc1 ds1 ∧ acc1.length ≤ i * 300 + j ∧
          Rz (fun r1 h6 => Rz (fun r h7 => Pst K Hb ρ Fr Q (.lst (ds1 ++ (r1 ++ r))) h7) (fun _ _ => False) (loopC2 tf dt src1 tf1 dt1 de vs1 (wipeD σ vs) (ws.drop (i + 1)) h6)) (fun _ _ => False) (loopC tf1 dt1 de (wipeD σ' vs1) (us.drop j) h),
        ⟨us.length, rfl, Nat.zero_le _, Hb5, ρ5, h4, acc, ds, Same.refl _, List.prefix_refl _, R5, hD5, rd.mono ((s3.trans s4).trans s5) (p4.trans p5), hacc, by rw [List.drop_zero]; exact k.imp (fun r1 h6 z => (Rz.bind z).imp (fun r h7 z => z) fun _ _ z => z) fun _ _ z => z⟩, ?_⟩
      rintro j m1 H6 ⟨rfl, hj, Hb6, ρ6, h6, acc1, ds1, s6, p6, R6, hD6, rd6, hacc6, k6⟩
      have iv6 : Iv1 Hb6 ρ6 F0 := S1.mono _ _ _ _ _ s6 p6 iv1
      have gf : ∀ {o : HO}, Same F0 (upd Fr D o) := fun {o} => same_write x.fr hF0
      by_cases hlj : j < us.length
      · have hwj : us[j]? = some us[j] := List.getElem?_eq_getElem hlj
        obtain ⟨hgo1, hyl1⟩ := S1.go Hb6 ρ6 F0 _ h6 H6 j us[j] iv6 gf R6 hwj
        refine .inr ⟨hgo1, fun H' => j + 1 ≤ us.length ∧ ∃ (Hb6 : Hp) (ρ6 : List Addr) (h : DH) (acc1 : List V) (ds1 : List DV), Same Hb5 Hb6 ∧ ρ5 <+: ρ6 ∧ Rel K Hb6 ρ6 (upd Fr D (.lst acc1)) h H' ∧ Hb6 D = none ∧ Reps K Hb6 ρ6 acc1 ds1 ∧ acc1.length ≤ i * 300 + (j + 1) ∧
          Rz (fun r1 h6 => Rz (fun r h7 => Pst K Hb ρ Fr Q (.lst (ds1 ++ (r1 ++ r))) h7) (fun _ _ => False) (loopC2 tf dt src1 tf1 dt1 de vs1 (wipeD σ vs) (ws.drop (i + 1)) h6)) (fun _ _ => False) (loopC tf1 dt1 de (wipeD σ' vs1) (us.drop (j + 1)) h), fun H' z => ⟨us.length - (j + 1), by omega, rfl, z⟩, fun v1 H7 y1 => ?_⟩
        obtain ⟨Hb7, s7, R7, r7⟩ := hyl1 v1 H7 y1
        rw [List.drop_eq_getElem_cons hlj] at k6
        obtain ⟨σ3, et1, k6⟩ := Rz.ofO (Rz.bind k6)
        have k6 := Rz.bind k6
        have x7 : Slots K Hb7 ρ6 F0 (upd Fr D (.lst acc1)) (wipeD σ' vs1) (wipe s' vs1) := slots_frame g2 (slots_wipe ((x5.mono s6 p6).mono s7 (List.prefix_refl _)) vs1)
        refine hg1 Hb7 ρ6 F0 _ _ σ3 _ h6 H7 v1 us[j] _ R7 x7 r7 et1 fun s3' x3' ew1 => ⟨ew1.trans (wipe_idem fun _ z => z), ?_⟩
        refine ⟨Hb7, ρ6, F0, _, σ3, h6, R7, x3', k6.imp (fun b h8 k => ?_) fun _ _ z => z.elim⟩
        rcases Rz.brB k with ⟨eb, k⟩ | ⟨eb, k⟩
        · refine ⟨true, eb, fun Hb8 ρ8 H8 s8 p8 R8 => iteT ?_⟩
          refine ⟨Hb8, ρ8, F0, _, σ3, h8, R8, x3'.mono s8 p8, (Rz.bind k).imp (fun xw h9 k => ?_) fun _ _ z => z.elim⟩
          obtain ⟨hx, k⟩ := Rz.chk k
          intro Hb9 ρ9 H9 yv s9 p9 R9 r9
          have hD9 : Hb9 D = none := R9.ap D _ upd_same
          have r9' := r9.held hx
          refine ⟨acc1, R9.fr D _ upd_same, cap_lt (by unfold cap; omega), hlj, Hb9, ρ9, h9, acc1 ++ [yv], ds1 ++ [xw], ((s6.trans s7).trans s8).trans s9, (p6.trans p8).trans p9, ?_, hD9, ?_, by rw [List.length_append, List.length_singleton]; omega, (Rz.bind k).imp (fun r1 h10 z => ?_) fun _ _ z => z⟩
          · have := R9.write (p := D) upd_same (.lst (acc1 ++ [yv]))
            rw [upd_upd] at this
            exact this
          · exact ((rd6.mono ((s7.trans s8).trans s9) (p8.trans p9))).append (.one r9')
          · refine Rz.imp z (fun r h11 z => ?_) fun _ _ z => z
            rw [List.append_assoc]
            exact z
        · refine ⟨false, eb, fun Hb8 ρ8 H8 s8 p8 R8 => iteF ?_⟩
          exact ⟨hlj, Hb8, ρ8, h8, acc1, ds1, (s6.trans s7).trans s8, p6.trans p8, R8, R8.ap D _ upd_same, rd6.mono (s7.trans s8) p8, Nat.le_succ_of_le hacc6, k⟩
      · have e : j = us.length := by omega
        subst e
        refine .inl ⟨S1.stop Hb6 ρ6 F0 _ h6 H6 iv6 gf R6, hlt, Hb6, ρ6, h6, acc1, ds1, (((s2.trans s3).trans s4).trans s5).trans s6, ((p2.trans p4).trans p5).trans p6, R6, hD6, rd6, by omega, ?_⟩
        rw [List.drop_length] at k6
        exact k6
    · refine ⟨false, eb, fun Hb4 ρ4 H4 s4 p4 R4 => iteF ?_⟩
      exact ⟨hlt, Hb4, ρ4, h3, acc, ds, (s2.trans s3).trans s4, p2.trans p4, R4, R4.ap D _ upd_same, rd.mono (s3.trans s4) p4, by omega, k⟩
  · have e : i = ws.length := by omega
    subst e
    refine .inl ⟨S.stop Hb2 ρ2 Fr _ h2 H2 iv2 g2 R2, ?_⟩
    rw [List.drop_length] at k2
    have k2 : Pst K Hb ρ Fr Q (.lst (ds ++ [])) h2 := k2
    rw [List.append_nil] at k2
    have sH : Same Hb2 (upd Hb2 D (.lst acc)) := same_lend hD2
    refine k2 (upd Hb2 D (.lst acc)) ρ2 H2 (.ref D) ((s1.trans s2).trans sH) (p1.trans p2) ⟨fun b o q => ?_, fun b o q => ?_, fun b o q => ?_, R2.len, fun n a c e1 e2 => ?_, fun n a e => ?_, R2.inj, fun b o q => R2.ft b o (g2 b o q)⟩ (.per (.lst upd_same (rd.mono sH (List.prefix_refl _))))
    · by_cases hb : b = D
      · subst hb; rw [upd_same] at q; cases q; exact R2.fr _ _ upd_same
      · rw [upd_ne hb] at q; exact R2.sub b o q
    · exact R2.fr b o (g2 b o q)
    · rw [upd_ne (ne_of_none q hF)]; exact R2.ap b o (g2 b o q)
    · exact (R2.cell n a c e1 e2).mono sH (List.prefix_refl _)
    · obtain ⟨z1, z2⟩ := R2.out n a e
      have ha : a ≠ D := fun z => by subst z; rw [upd_same] at z2; cases z2
      rw [upd_ne ha] at z2 ⊢
      exact ⟨z1, z2⟩
section
variable {X : Cx} {E : L2.St → XK}
theorem se_comp2 {elt tg iter tg1 iter1 : Expr} {ifs ifs1 : List Expr} {scope : Scope} {own : List (Str × Nat)} {pos : Pos} {src src1 : DA} {g g1 : TG} {tf tf1 : TF} {dt dt1 de : DE} {vs vs1 : List Nat} (hc : X.calm = true) (hN : X.N.Nodup) (hi : SI X E true tg iter src) (ok : BlkOk X.N X.env.scope scope own) (hv : own.map (·.2) = vs) (hv1 : ∀ i ∈ vs1, i ∈ vs)
    (hg : ∀ (s : Shared) (H : Hp) (C : Addr) (cl : List (Str × Addr)) (fp : List Addr), PG (X.blk s H scope (compEnvC scope cl C X.env) fp) tg g) (gc : GC X.K g tf vs)
    (ht : ∀ (s : Shared) (H : Hp) (C : Addr) (cl : List (Str × Addr)) (fp : List Addr), PTs (X.blk s H scope (compEnvC scope cl C X.env) fp) ifs (tT X.K X.mg (fun _ => E0) dt))
    (hi1 : ∀ (s : Shared) (H : Hp) (C : Addr) (cl : List (Str × Addr)) (fp : List Addr), SI (X.blk s H scope (compEnvC scope cl C X.env) fp) (fun _ => E0) false tg1 iter1 src1)
    (hg1 : ∀ (s : Shared) (H : Hp) (C : Addr) (cl : List (Str × Addr)) (fp : List Addr), PG (X.blk s H scope (compEnvC scope cl C X.env) fp) tg1 g1) (gc1 : GC X.K g1 tf1 vs1)
    (ht1 : ∀ (s : Shared) (H : Hp) (C : Addr) (cl : List (Str × Addr)) (fp : List Addr), PTs (X.blk s H scope (compEnvC scope cl C X.env) fp) ifs1 (tT X.K X.mg (fun _ => E0) dt1))
    (he : ∀ (s : Shared) (H : Hp) (C : Addr) (cl : List (Str × Addr)) (fp : List Addr), SE (X.blk s H scope (compEnvC scope cl C X.env) fp) (fun _ => E0) elt de) (hs : ∀ x, foldedSetIterable iter X.env x = pure x := by intro _; rfl) (hs1 : ∀ env x, foldedSetIterable iter1 env x = pure x := by intro _ _; rfl) :
    SE X E (.ListComp elt [⟨tg, iter, ifs, 0⟩, ⟨tg1, iter1, ifs1, 0⟩] scope pos) (dComp2 src tf dt src1 tf1 dt1 de vs vs1) := by
  subst hv
  exact (pe_lc2 hc hN hi ok hv1 hg ht hi1 hg1 ht1 he hs hs1).weak fun s H Q k => comp2_run gc gc1 k
end
section
variable {X : Cx} {E : XK}
theorem ss_setLc2 {i : Nat} {y : Str} {py : Pos} {elt tg iter tg1 iter1 : Expr} {ifs ifs1 : List Expr} {scope : Scope} {own : List (Str × Nat)} {pos spos : Pos} {src src1 : DA} {g g1 : TG} {tf tf1 : TF} {dt dt1 de : DE} {vs vs1 : List Nat} (hc : X.calm = true) (hN : X.N.Nodup) (hy : X.N[i]? = some y) (hyl : X.env.scope.names.lookup y = some .local)
    (hsw : swapsWith (.ListComp elt [⟨tg, iter, ifs, 0⟩, ⟨tg1, iter1, ifs1, 0⟩] scope pos) (some (.Name y py)) spos.line X.env = pure true) (hi : SI X (cE E) true tg iter src) (ok : BlkOk X.N X.env.scope scope own) (hv : own.map (·.2) = vs) (hv1 : ∀ i ∈ vs1, i ∈ vs)
    (hg : ∀ (s : Shared) (H : Hp) (C : Addr) (cl : List (Str × Addr)) (fp : List Addr), PG (X.blk s H scope (compEnvC scope cl C X.env) fp) tg g) (gc : GC X.K g tf vs)
    (ht : ∀ (s : Shared) (H : Hp) (C : Addr) (cl : List (Str × Addr)) (fp : List Addr), PTs (X.blk s H scope (compEnvC scope cl C X.env) fp) ifs (tT X.K X.mg (fun _ => E0) dt))
    (hi1 : ∀ (s : Shared) (H : Hp) (C : Addr) (cl : List (Str × Addr)) (fp : List Addr), SI (X.blk s H scope (compEnvC scope cl C X.env) fp) (fun _ => E0) false tg1 iter1 src1)
    (hg1 : ∀ (s : Shared) (H : Hp) (C : Addr) (cl : List (Str × Addr)) (fp : List Addr), PG (X.blk s H scope (compEnvC scope cl C X.env) fp) tg1 g1) (gc1 : GC X.K g1 tf1 vs1)
    (ht1 : ∀ (s : Shared) (H : Hp) (C : Addr) (cl : List (Str × Addr)) (fp : List Addr), PTs (X.blk s H scope (compEnvC scope cl C X.env) fp) ifs1 (tT X.K X.mg (fun _ => E0) dt1))
    (he : ∀ (s : Shared) (H : Hp) (C : Addr) (cl : List (Str × Addr)) (fp : List Addr), SE (X.blk s H scope (compEnvC scope cl C X.env) fp) (fun _ => E0) elt de) (hs : ∀ x, foldedSetIterable iter X.env x = pure x := by intro _; rfl) (hs1 : ∀ env x, foldedSetIterable iter1 env x = pure x := by intro _ _; rfl) :
    SS X E (.Assign [.Name y py] (.ListComp elt [⟨tg, iter, ifs, 0⟩, ⟨tg1, iter1, ifs1, 0⟩] scope pos) spos) (dSet i (dComp2 src tf dt src1 tf1 dt1 de vs vs1)) := by
  subst hv
  exact (ps_setLc2 hc hN hy hyl hsw hi ok hv1 hg ht hi1 hg1 ht1 he hs hs1).weak fun D s H k => comp2_run gc gc1 (tS_ex (f := fun w σ h1 => chk (held w) (.ok (.next (setS i w σ)) h1)) k fun w Hb ρ F0 Fr σ h H x R sl r k => by
    obtain ⟨hw, k⟩ := Rz.chk k
    exact k Hb ρ Fr H _ (Same.refl _) (List.prefix_refl _) R (slots_set sl (r.held hw)))
end
end DL
namespace DL
open PySem PySem.Spec PyProof.Rows L2
theorem meets_enum1 {v : Value} {ob : Obj} {Hh : Heap → Prop} (B : Begins v ob Hh) :
    Meets (Builtin.«enumerate.__new__» ⟨[.type "enumerate", v], []⟩) (fun _ R s => Hh s.heap ∧ R (.ok (.ret (.ref (s.heap.push ob).objs.size)))
      { s with heap := (s.heap.push ob).push { cls := .type "enumerate", data := .fields #[.none, .bool false, .ref s.heap.objs.size, rawInt 0, .none, .none] } }) :=
  .of_wp fun prog w A R s h => by
    obtain ⟨hp, g, d, tk, os⟩ := s
    obtain ⟨hb, h⟩ := h
    have hsub := sub_enumerate
    have qi : ∀ {A' : Around} {E Q : Value → Shared → Prop}, Q (.ref hp.objs.size) ⟨hp.push ob, g, d, tk, os⟩ → wpAny (model prog w) A' (pyIter v) Q E ⟨hp, g, d, tk, os⟩ := fun q => B.iter prog w _ _ ⟨hp, g, d, tk, os⟩ _ hb q
    wp_walk using qi
    refine wpAny_stack_any fun _ => wpAny_pure ?_
    split
    · rename_i c _ _ _ _ _
      cases (c == Value.type "enumerate") <;> (wp_walk using qi; exact ⟨_, rfl, h⟩)
    · wp_walk using qi
      exact ⟨_, rfl, h⟩
theorem enum1_begins {prog : Program} {w : World} {A : Around} {E Q : Value → Shared → Prop} {s : Shared} {v : Value} {ob : Obj} {Hh : Heap → Prop} (B : Begins v ob Hh) (hb : Hh s.heap)
    (k : ∀ h', IsEnum h' (s.heap.objs.size + 1) s.heap.objs.size 0 .none → h'.get? s.heap.objs.size = some ob → (∀ b u, s.heap.get? b = some u → h'.get? b = some u) → Q (.ref (s.heap.objs.size + 1)) { s with heap := h' }) :
    wpAny (model prog w) A (call (.type "enumerate") [v]) Q E s := by
  have sz : (s.heap.push ob).objs.size = s.heap.objs.size + 1 := Heap.size_push ..
  refine callType_new F.called_enumerate (by decide) (F.typeCall_enumerate_1 _) (F.newCall_enumerate_1 _) (fun o => F.args_object_init_2 o _) F.entry_enumerate_new (meets_enum1 B) ⟨hb, ?_⟩
  show _ ∧ _
  rw [sz]
  have he := Heap.get?_push_size (s.heap.push ob) (o := { cls := .type "enumerate", data := .fields #[.none, .bool false, .ref s.heap.objs.size, rawInt 0, .none, .none] }) rfl
  rw [sz] at he
  exact ⟨⟨_, he, rfl⟩, k _ he (Heap.get?_push_of_some _ (Heap.get?_push_size _ B.free)) fun b u x => Heap.get?_push_of_some _ (Heap.get?_push_of_some _ x)⟩
def IteT (K : PySem.W.Frag) (a : Addr) : It :=
  ⟨fun i H => ∃ (xs : List V) (x : V), SqT K H a xs ∧ xs[i]? = some x, fun i H v H' => ∃ T x, v = .ref T ∧ H T = none ∧ H' = upd H T (.tup [.int (i : Nat), x]) ∧ ∀ xs, SqT K H a xs → xs[i]? = some x, fun i H => ∃ xs : List V, SqT K H a xs ∧ xs.length = i⟩
theorem apart_iter {h : Heap} {it t : Addr} {i : Nat} {items : Array Value} (p : h.IsTuple t items) (q : h.IsTupleIter it t i) : t ≠ it := fun e => by
  subst e
  obtain ⟨o, e1, e2, _⟩ := p
  obtain ⟨o', f1, f2, _⟩ := q
  rw [e1] at f1
  cases f1
  rw [e2] at f2
  exact absurd f2 (by decide)
theorem turn_enumT {P : Program} {w : World} {K : PySem.W.Frag} {elts : List Expr} {kk : Nat} {tpos : Pos} (a e it : Addr) :
    Turn P w K (.Tuple elts kk tpos) (IteT K a) [e, it] e (fun i h => (∃ old, IsEnum h e it ((i : Nat) : Int) old) ∧ h.IsTupleIter it a i ∧ e ≠ it) where
  mem := List.mem_cons_self
  obj := fun i h st b hb => by
    obtain ⟨⟨old, he⟩, ⟨o, ho, _, hd⟩, _⟩ := st
    rcases (show b = e ∨ b = it by simpa using hb) with rfl | rfl
    · exact ⟨_, he, fun v q => nomatch q⟩
    · exact ⟨o, ho, fun v q => by rw [hd] at q; cases q⟩
  keep := fun i h h' st k => ⟨⟨st.1.choose, k e (by simp) _ st.1.choose_spec⟩, st.2.1.at fun o q => k it (by simp) o q, st.2.2⟩
  item := by
    intro X hP hw hK hc i pins s σ H E I hf st hg
    subst hP hw hK
    obtain ⟨⟨old, he⟩, hit, hne⟩ := st
    obtain ⟨xs, x, hq, hx⟩ := hg
    obtain ⟨its, rv, p, _⟩ := I.tuple hq
    obtain ⟨u, hu, ru⟩ := rv.get hx
    have le := Heap.lt_size he
    have li : it < s.heap.objs.size := by obtain ⟨_, q, _⟩ := hit; exact Heap.lt_size q
    have lt : i < its.toArray.size := by
      have := (List.getElem?_eq_some_iff.mp hu).1
      simpa using this
    have ea : e ∉ [it, a] := fun z => by
      rcases (show e = it ∨ e = a by simpa using z) with z | z
      · exact hne z
      · subst z
        obtain ⟨o, e1, e2, _⟩ := p
        rw [he] at e1
        cases e1
        exact absurd (show Value.type "enumerate" = Value.type "tuple" from e2) (by decide)
    refine wpAny_pyNext_enum_itemD (Draws.tuple (A := X.A.in1) (I.ok.hd hc) it a (apart_iter p hit) its.toArray) he ⟨hit, p⟩ lt hne ea fun u' h1 tk hu' ho st1 hT hsz hk => ?_
    have eu : u' = u := by
      have : its.toArray[i]? = some u := by simpa using hu
      rw [this] at hu'
      cases hu'
      rfl
    subst eu
    refine ⟨_, rfl, wpAny_letOwnedTupleGo_enum (s := { s with heap := h1, toks := tk + 1 }) ho fun h2 he2 sb => ?_⟩
    have hT2 := (sb.2 _ (Nat.ne_of_gt le)).trans hT
    have new : ObjOk X.prog X.w (upd H s.heap.objs.size (.tup [.int (i : Nat), x])) h2 s.heap.objs.size (.tup [.int (i : Nat), x]) := ⟨by show 2 ≤ sizeLine; decide, [.int i tk, u'], .cons ⟨_, rfl⟩ (.cons ru .nil), ⟨_, hT2, rfl, _, rfl⟩⟩
    have I1 : Inv X pins σ (upd H s.heap.objs.size (.tup [.int (i : Nat), x])) { s with heap := h2, toks := tk + 1 } := I.turnedNew (ch := [e, it]) (fun b ob hb q => by
      have n1 : b ≠ e := fun z => hb (by simp [z])
      have n2 : b ≠ it := fun z => hb (by simp [z])
      exact (sb.2 b n1).trans (hk b ob n1 n2 q)) hf (Nat.le_refl _) new
    refine ⟨.ref s.heap.objs.size, _, I1, rfl, ⟨_, x, rfl, I.hok.fresh (Nat.le_refl _), rfl, fun ys hy => by rw [I.tuple_inj hy hq]; exact hx⟩, ⟨⟨u', ?_⟩, st1.1.at fun o q => (sb.2 it (Ne.symm hne)).trans q, hne⟩, fun b hb => ?_⟩
    · rw [show ((i + 1 : Nat) : Int) = (i : Int) + 1 by omega]
      exact he2
    · have hlt : b < s.heap.objs.size := by
        rcases (show b = e ∨ b = it by simpa using hb) with rfl | rfl
        · exact le
        · exact li
      rw [upd_ne (Nat.ne_of_lt hlt)]
      exact (hf b hb).1
  done := by
    intro X hP hw hK hc i pins s σ H E I hf st hg
    subst hP hw hK
    obtain ⟨⟨old, he⟩, hit, hne⟩ := st
    obtain ⟨xs, hq, hx⟩ := hg
    obtain ⟨its, rv, p, _⟩ := I.tuple hq
    obtain ⟨f0, f1, f2, f3, f4, f5⟩ := hf it (by simp)
    have en : its.toArray.size = i := by
      have := rv.length
      simp
      omega
    rw [← en] at hit
    exact wpAny_pyNext_enum_endD (Draws.tuple (A := X.A.in1) (I.ok.hd hc) it a (apart_iter p hit) its.toArray) he ⟨hit, p⟩ fun h' eb => ⟨rfl, I.turned (t' := s.toks) (fun b o hb q => eb b o hb q) f0 f1 f3 f4 f5⟩
  self := fun A i s Q E st h => wpAny_pyIter_enum st.1.choose_spec h
def iEnumA (K : PySem.W.Frag) (ta : TA) : TI := fun σ H R => ta σ H fun vs H1 => ∃ a xs, vs = [.ref a] ∧ ((SqL K H1 a xs ∧ R (Ite K a) H1) ∨ (SqT K H1 a xs ∧ R (IteT K a) H1))
theorem pi_enumA {X : Cx} {e : Expr} {ta : TA} {p pos tpos : Pos} {elts : List Expr} {kk : Nat} (hg : Gl X "enumerate") (hm : X.mg "enumerate" = none) (ha : PA X [e] ta) (hs : starEach [e] X.env = [(false, eval e X.env)] := by rfl) :
    PI X (.Tuple elts kk tpos) (.Call (.Name "enumerate" p) [e] [] pos) (iEnumA X.K ta) := by
  refine ⟨fun pins s σ H R I h => ?_⟩
  refine Call_ (ld_blt I hg hm boot_enumerate (PyProof.Rows.callWith_type1 (thn (ha.run pos pins s σ H _ I h) fun us s1 ⟨vs, H1, I1, r1, q1⟩ => ?_) hs rfl))
  obtain ⟨a, xs, rfl, q1⟩ := q1
  obtain ⟨u, rfl, ru⟩ := vals1 r1
  obtain rfl : u = Value.ref a := ru
  have fresh : ∀ b ∈ [s1.heap.objs.size + 1, s1.heap.objs.size], FpOk X pins H1 b := fun b hb => by
    have le : s1.heap.objs.size ≤ b := by
      rcases (show b = s1.heap.objs.size + 1 ∨ b = s1.heap.objs.size by simpa using hb) with z | z
      · rw [z]; exact Nat.le_succ _
      · rw [z]; exact Nat.le_refl _
    exact I1.fpOk le (I1.hok.fresh le)
  rcases q1 with ⟨hq, q⟩ | ⟨hq, q⟩
  · obtain ⟨its, rv, p', _⟩ := I1.list hq
    refine enum1_begins (begins_list a its.toArray) p'.isList fun h' he hit hk => wpAny_pyIter_enum he ?_
    exact ⟨s1.heap.objs.size + 1, [s1.heap.objs.size + 1, s1.heap.objs.size], _, _, H1, rfl, I1.kept (t' := s1.toks) hk, turn_enum a (s1.heap.objs.size + 1) s1.heap.objs.size, ⟨⟨.none, he⟩, ⟨_, hit, rfl, rfl⟩, Nat.succ_ne_self _⟩, fresh, q⟩
  · obtain ⟨its, rv, p', _⟩ := I1.tuple hq
    refine enum1_begins (begins_tuple a its.toArray) p' fun h' he hit hk => wpAny_pyIter_enum he ?_
    exact ⟨s1.heap.objs.size + 1, [s1.heap.objs.size + 1, s1.heap.objs.size], _, _, H1, rfl, I1.kept (t' := s1.toks) hk, turn_enumT a (s1.heap.objs.size + 1) s1.heap.objs.size, ⟨⟨.none, he⟩, ⟨_, hit, rfl, rfl⟩, Nat.succ_ne_self _⟩, fresh, q⟩
end DL
namespace DL
open PySem PySem.Spec PyProof.Rows L2
def enumD : Nat → List DV → List DV
  | _, [] => []
  | k, w :: ws => .tup [.int (k : Nat), w] :: enumD (k + 1) ws
theorem enumD_len : ∀ (ws : List DV) (k : Nat), (enumD k ws).length = ws.length
  | [], _ => rfl
  | w :: ws, k => congrArg (· + 1) (enumD_len ws (k + 1))
theorem enumD_get : ∀ {ws : List DV} {k i : Nat} {w : DV}, (enumD k ws)[i]? = some w → ∃ x, ws[i]? = some x ∧ w = .tup [.int ((k + i : Nat) : Int), x]
  | [], _, _, _, e => by cases e
  | x :: ws, k, 0, w, e => by cases e; exact ⟨x, rfl, rfl⟩
  | x :: ws, k, i + 1, w, e => by
    obtain ⟨y, e1, e2⟩ := enumD_get (ws := ws) (k := k + 1) (i := i) e
    exact ⟨y, e1, by rw [e2, show k + 1 + i = k + (i + 1) by omega]⟩
theorem src_enum {K : PySem.W.Frag} {Gen : Hp → Addr → List V → Prop} {J : It} {a : Addr} {xs : List V} {ws : List DV} {Iv : Hp → List Addr → Hp → Prop}
    (mono : ∀ Hb Hb' ρ ρ' G, Same Hb Hb' → ρ <+: ρ' → Iv Hb ρ G → Iv Hb' ρ' G) (hq : ∀ Hb ρ G Fr h H, Iv Hb ρ G → Same G Fr → Rel K Hb ρ Fr h H → Gen H a xs) (hr : ∀ Hb ρ G, Iv Hb ρ G → Reps K Hb ρ xs ws)
    (stop : ∀ i H, Gen H a xs → xs.length = i → J.stop i H) (go : ∀ i H x, Gen H a xs → xs[i]? = some x → J.go i H)
    (yld : ∀ i H v H', Gen H a xs → J.yld i H v H' → ∃ T x, v = .ref T ∧ H T = none ∧ H' = upd H T (.tup [.int (i : Nat), x]) ∧ xs[i]? = some x) : Src K J (enumD 0 ws) Iv where
  mono := mono
  stop := fun Hb ρ G Fr h H iv g R => stop _ H (hq Hb ρ G Fr h H iv g R) (by rw [(hr Hb ρ G iv).length, enumD_len])
  go := fun Hb ρ G Fr h H i w iv g R e => by
    have q := hq Hb ρ G Fr h H iv g R
    have r := hr Hb ρ G iv
    obtain ⟨x, ex, rfl⟩ := enumD_get e
    obtain ⟨vx, evx, rx⟩ := r.get ex
    refine ⟨go i H vx q evx, fun v H' yl => ?_⟩
    obtain ⟨T, x', rfl, hT, rfl, e1⟩ := yld i H v H' q yl
    rw [evx] at e1
    cases e1
    obtain ⟨s1, R1⟩ := R.new hT (.tup [.int (i : Nat), vx])
    rw [Nat.zero_add]
    exact ⟨_, s1, R1, rep_tup (R.hb_fresh hT) (.cons (.int _) (.cons rx .nil))⟩
def enum1 (c : Bool) : DV → Option (List DV)
  | .tup ws => some (enumD 0 ws)
  | .lst ws => some (enumD 0 ws)
  | .brw ws => if c = true then some (enumD 0 ws) else none
  | _ => none
def gEnum (c : Bool) (ws : List DV) : Option (List DV) := match ws with
  | [w] => enum1 c w
  | _ => none
section
variable {X : Cx} {E : L2.St → XK} {a : Expr} {dr : DA}
theorem enum_lst {c : Bool} {F0 Fr Hb : Hp} {ρ : List Addr} {H : Hp} {h : DH} {x : V} {w : DV} {ws : List DV} {Rr : It → Hp → Prop} (R : Rel X.K Hb ρ Fr h H) (g : Same (if c = true then Fr else F0) Fr) (r1 : RepT X.K Hb ρ Fr x w) (e1 : lstOf w = some ws) (h1 : c = true ∨ held w = true)
    (k : ∀ (J : It) (Iv : Hp → List Addr → Hp → Prop), Src X.K J (enumD 0 ws) Iv → Iv Hb ρ (if c = true then Fr else F0) → Rr J H) : ∃ a xs, [x] = [V.ref a] ∧ ((SqL X.K H a xs ∧ Rr (Ite X.K a) H) ∨ (SqT X.K H a xs ∧ Rr (IteT X.K a) H)) := by
  obtain ⟨p, xs, Iv1, rfl, iv1, m1, q1, s1⟩ := lst_iv c F0 r1 e1 h1
  refine ⟨p, xs, rfl, .inl ⟨q1 _ _ _ _ _ _ iv1 g R, k _ Iv1 (src_enum (Gen := fun H a xs => SqL X.K H a xs) (a := p) m1 q1 s1 (fun i H gg e => ⟨xs, gg, Nat.le_of_eq e⟩) (fun i H x gg ex => ⟨xs, x, gg, ex⟩) fun i H v H' gg y => ?_) iv1⟩⟩
  obtain ⟨T, x, ev, hT, eH, f1⟩ := y
  exact ⟨T, x, ev, hT, eH, f1 xs gg⟩
theorem enum_tup {c : Bool} {F0 Fr Hb : Hp} {ρ : List Addr} {H : Hp} {h : DH} {x : V} {ws : List DV} {Rr : It → Hp → Prop} (R : Rel X.K Hb ρ Fr h H) (r1 : RepT X.K Hb ρ Fr x (.tup ws))
    (k : ∀ (J : It) (Iv : Hp → List Addr → Hp → Prop), Src X.K J (enumD 0 ws) Iv → Iv Hb ρ (if c = true then Fr else F0) → Rr J H) : ∃ a xs, [x] = [V.ref a] ∧ ((SqL X.K H a xs ∧ Rr (Ite X.K a) H) ∨ (SqT X.K H a xs ∧ Rr (IteT X.K a) H)) := by
  cases r1 with
  | per r1 =>
    cases r1 with
    | tup hp rp =>
      rename_i p xs
      have hp := SqT.of (K := X.K) hp
      refine ⟨p, xs, rfl, .inr ⟨sqt_same R.sub hp, k _ (fun Hb ρ G => SqT X.K Hb p xs ∧ Reps X.K Hb ρ xs ws) (src_enum (Gen := fun H a xs => SqT X.K H a xs) (a := p) (fun _ _ _ _ _ s p iv => ⟨sqt_same s iv.1, iv.2.mono s p⟩)
        (fun _ _ _ _ _ _ iv g R => sqt_same R.sub iv.1) (fun _ _ _ iv => iv.2) (fun i H gg e => ⟨xs, gg, e⟩) (fun i H x gg ex => ⟨xs, x, gg, ex⟩) fun i H v H' gg y => ?_) ⟨hp, rp⟩⟩⟩
      obtain ⟨T, x, ev, hT, eH, f1⟩ := y
      exact ⟨T, x, ev, hT, eH, f1 xs gg⟩
theorem si_enum {c : Bool} {elts : List Expr} {kk : Nat} {p pos tpos : Pos} (hg : Gl X "enumerate") (hm : X.mg "enumerate" = none) (ha : SA X E [a] dr) (hs : starEach [a] X.env = [(false, eval a X.env)] := by rfl) :
    SI X E c (.Tuple elts kk tpos) (.Call (.Name "enumerate" p) [a] [] pos) (dSrc (gEnum c) dr) := (pi_enumA hg hm ha hs).weak fun s H Rr ⟨Hb, ρ, F0, Fr, σ, h, R, x, k⟩ => by
  refine ⟨Hb, ρ, F0, Fr, σ, h, R, x, (Rz.bind k).imp (fun ws h1 k => ?_) fun _ _ z => z⟩
  obtain ⟨rs, er, kz⟩ := Rz.ofO k
  clear k
  intro Hb1 ρ1 H1 vs s1 p1 R1 r1
  have g : Same (if c = true then Fr else F0) Fr := by
    cases c with
    | true => exact Same.refl _
    | false => exact x.fr
  have one : ∃ w x, ws = [w] ∧ vs = [x] ∧ RepT X.K Hb1 ρ1 Fr x w := by
    cases r1 with
    | nil => cases er
    | cons q1 rr =>
      cases rr with
      | nil => exact ⟨_, _, rfl, rfl, q1⟩
      | cons _ _ => cases er
  obtain ⟨w, vx, rfl, rfl, q1⟩ := one
  have er : enum1 c w = some rs := er
  have kk := fun (J : It) (Iv : Hp → List Addr → Hp → Prop) => kz Hb1 ρ1 H1 J Iv s1 p1 R1
  cases w with
  | tup ws => cases er; exact enum_tup (c := c) (F0 := F0) R1 q1 kk
  | lst ws => cases er; exact enum_lst R1 g q1 rfl (.inr rfl) kk
  | brw ws =>
    cases c with
    | true => cases er; exact enum_lst R1 g q1 rfl (.inl rfl) kk
    | false => cases er
  | _ => cases er
end
end DL
namespace DL
open PySem PySem.Spec PyProof.Rows L2
theorem tuple_mul1 (l : Addr) (items : Array Value) (n : Nat) (dd : Option Addr) (sl : Array (Option Value)) (u : Tok) :
    Meets (Builtin.«tuple.__mul__» ⟨[.ref l, .int 1 u], []⟩) (fun _ R s => s.heap.get? l = some { cls := .type "tuple", dict := dd, data := .seq items n, slots := sl } ∧ R (.ok (.ret (Value.ref l))) s) :=
  .of_wp fun prog w A R s h => by
    obtain ⟨hp, g, d, tk, os⟩ := s
    obtain ⟨hl, h⟩ := h
    have f1 := AutoSeq1.idx_int
    have c1 : (items.isEmpty || (1 : Int) == 1) = true := Bool.or_true _
    wp_walk using wpAny_loadPart' hl
    exact ⟨_, rfl, h⟩
def rRep1 (K : PySem.W.Frag) : R2 := fun x y H Q => ∃ l xs, x = .ref l ∧ y = .int 1 ∧ SqT K H l xs ∧ Q (.ref l) H
section
variable {X : Cx}
theorem op_rep1 : OpR X (binaryOp .Mult) (rRep1 X.K) := by
  intro pins s σ H x y v u Q I rx ry h
  obtain ⟨l, xs, rfl, rfl, hT, q⟩ := h
  cases rx
  obtain ⟨t, rfl⟩ := ry
  obtain ⟨its, r, ⟨⟨cls, dd, data, sl⟩, ho, hc, n, hd⟩, hs⟩ := I.tuple hT
  simp only at hc hd
  subst hc hd
  refine wpAny_binaryOp_repeat_ref (T := "tuple") (U := "int") (by decide) ⟨_, ho, rfl⟩ (fun s' => typeIs_int s' 1 t) noFill_tuple_mul F.fills_int_mul F.slot_int_rmul repeat_tuple F.slot_int_index.lookup ?_
  refine call_meets F.slot_int_rmul (typeIs_int s 1 t) F.entry_int_rmul (F.args_int_rmul_2 _ _) (int_rmul_tuple 1 t l its.toArray n dd sl) ⟨ho, rfl, ⟨_, ho, rfl⟩, ?_⟩
  exact call_meets F.slot_tuple_mul ⟨_, ho, rfl⟩ F.entry_tuple_mul (F.args_tuple_mul_2 _ _) (tuple_mul1 l its.toArray n dd sl t) ⟨ho, .ref l, H, I, rfl, q⟩
def gRep1 : DV → DV → Option DV
  | .tup ws, .int k => if k = 1 then some (.tup ws) else none
  | _, _ => none
theorem od_rep1 : OpD X (rRep1 X.K) gRep1 := fun Hb ρ Fr h H x y a b w Q R rx ry e k => by
  unfold gRep1 at e
  split at e
  · rename_i ws j
    by_cases hc : j = 1
    · rw [if_pos hc] at e
      cases e
      subst hc
      obtain ⟨p, xs, e1, h1, r1⟩ := tup_of R rx
      subst e1
      exact ⟨p, xs, rfl, int_of ry, h1, Pst.same R k rx⟩
    · rw [if_neg hc] at e; cases e
  · cases e
def gMulT : DV → DV → Option DV := gOr (gI fun i j => if CMul i j then some (.int (i * j)) else none) (gOr gRepL (gOr gRepT gRep1))
theorem omulT : ∃ r, OpR X (binaryOp .Mult) r ∧ OpD X r gMulT := ⟨_, op_mul.or (op_rep.or (op_repT.or op_rep1)), od_or od_IC (od_or od_repL (od_or od_repT od_rep1))⟩
end
section
variable {X : Cx} {E : L2.St → XK} {a b : Expr} {pos : Pos} {da db : DE}
theorem se_mulT (ha : SE X E a da) (hb : SE X E b db) : SE X E (.BinOp a .Mult b pos) (dOp gMulT da db) := by
  obtain ⟨r, h1, h2⟩ := omulT (X := X)
  exact se_op h1 h2 ha hb
end
end DL
namespace DL
open PySem PySem.Spec PyProof.Rows L2
def popS (j i : Nat) (ws : List DV) (σ : DSt) (h : DH) : Res Fl := match ws.getLast? with
  | some w => .ok (.next (setS j w (setO i ws.dropLast σ))) h
  | none => .bad
def dPop (j i : Nat) : DS := fun σ h => match σ[i]? with
  | some (.own ws) => popS j i ws σ h
  | _ => .bad
section
variable {X : Cx} {E : XK} {st : Stmt}
theorem ss_pop {j i : Nat} (hs : PS X st (tAsg (tBM0 X.K "list" rPop (tVar i)) (gName j))) : SS X E st (dPop j i) := hs.weak fun D s H ⟨Hb, ρ, F0, Fr, σ, h, R, x, k⟩ => by
  unfold dPop at k
  cases eq : σ[i]? with
  | none => rw [eq] at k; exact k.elim
  | some q =>
    rw [eq] at k
    have y := x.at_ i q eq
    cases q with
    | un => exact k.elim
    | fdt m => exact k.elim
    | dx D m => exact k.elim
    | fdx D m => exact k.elim
    | dct m => exact k.elim
    | val w => exact k.elim
    | own ws =>
      obtain ⟨a, xs, e1, f, n0, ru⟩ := y
      have k : Rz (PFl X.K Hb ρ F0 D) (Pex X.K X.mg Hb ρ F0 E) (popS j i ws σ h) := k
      unfold popS at k
      have hH := R.fr _ _ f
      cases eg : ws.getLast? with
      | none => rw [eg] at k; exact k.elim
      | some w =>
        rw [eg] at k
        have eg' := eg
        rw [List.getLast?_eq_getElem?] at eg'
        obtain ⟨v, ev, rv⟩ := ru.get eg'
        rw [← ru.length] at ev
        have rd : Reps X.K Hb ρ xs.dropLast ws.dropLast := by
          rw [List.dropLast_eq_take, List.dropLast_eq_take, ru.length]
          exact ru.take _
        refine ⟨.ref a, e1, Or.inl ⟨rfl, _, SqL.of hH⟩, a, xs, v, rfl, rfl, hH, ev, ?_⟩
        obtain ⟨R2, x2⟩ := own_write R x eq e1 f n0 rd
        exact k Hb ρ _ _ _ (Same.refl _) (List.prefix_refl _) R2 (slots_set x2 rv)
end
end DL
namespace SG
open PySem PySem.W PySem.Calls PyProof.Rows
def gone (h : Heap) (k : Addr) : Heap := ⟨h.objs.setIfInBounds k { cls := .type "list", data := .freed }, h.life⟩
theorem gone_at (h : Heap) (k : Addr) : (gone h k).get? k = none := by
  unfold gone Heap.get?
  by_cases hk : k < h.objs.size
  · simp [hk]
  · simp [hk]
theorem gone_ne {h : Heap} {k b : Addr} (hb : b ≠ k) : (gone h k).get? b = h.get? b := by
  unfold gone Heap.get?
  rw [Array.getElem?_setIfInBounds_ne (Ne.symm hb)]
section
variable {prog : Program} {w : World} {A : Around} {E : Value → Shared → Prop} {s : Shared} {a kS : Addr} {vs : List Value} {e1 : Nat} {P : PySem.Fin → Shared → Prop} {ks : List Int} {f : Value} {b : Bool}
theorem ints_alike (ks : List Int) : AllAlike (ks.map PyData.int) := AllAlike.of fun _ _ => rfl
theorem ints_sortable (ks : List Int) : Sortable (ks.map PyData.int) := Sortable.others fun _ => ⟨fun z => (nomatch z), fun _ z => (nomatch z)⟩
theorem keyG_rest (G : Shared → Prop) (g0 : G s) (nk : s.heap.get? kS = some (seqObj "list" #[] 0)) (na : s.heap.get? a = some (seqObj "list" #[] e1)) (hka : kS ≠ a) (hlen : ks.length = vs.length) (hZ : vs.length ≤ sizeLine) (hu : A.units < cLine)
    (put : ∀ s1 h1, G s1 → Heap.SameBut kS s1.heap h1 → G { s1 with heap := h1 })
    (turn : ∀ (i : Nat) (v : Value) (k : Int), vs[i]? = some v → ks[i]? = some k → ∀ s1 ob oa, G s1 → s1.heap.get? kS = some ob → s1.heap.get? a = some oa → (∀ v, ob.data ≠ .cell v) → (∀ v, oa.data ≠ .cell v) →
      wpAny (model prog w) A (call f [v]) (fun u s2 => G s2 ∧ s2.heap.get? kS = some ob ∧ s2.heap.get? a = some oa ∧ ∃ t, u = .int k t) (fun _ _ => False) s1)
    (fin : ∀ s1 h2 tk out c, G s1 → (∀ x o, x ≠ a → x ≠ kS → s1.heap.get? x = some o → h2.get? x = some o) → h2.get? a = some (seqObj "list" (List.toArray out) c) → KeyedOut b (ks.map .int) vs out → P (.done (.ret .none)) { s1 with heap := h2, toks := tk }) :
    wpAny (model prog w) A (ksk_rest a f b vs.toArray e1 (.ref kS)) P E s := by
  unfold ksk_rest
  refine wpAny_bind (wpAny_rule ?_)
  first
    | rw [List.forIn_toArray]
    | (rw [← Array.forIn_toList]; simp only [List.toList_toArray])
    | rw [← Array.forIn_toList]
  refine wpAny_bind (ksk_fold (fun i s' => G s' ∧ ∃ kA e, s'.heap.get? kS = some (seqObj "list" kA e) ∧ s'.heap.get? a = some (seqObj "list" #[] e1) ∧ EachIs (fun v (k : Int) => ∃ t, v = Value.int k t) kA.toList (ks.take i)) vs 0 s ⟨g0, #[], 0, nk, na, by rw [List.take_zero]; exact EachIs.nil⟩ ?step ?done)
  case step =>
    rintro j x s' hx ⟨gs, kA, e, nk', na', hk⟩
    simp only [Nat.zero_add] at hk ⊢
    have hj : j < vs.length := (List.getElem?_eq_some_iff.mp hx).1
    obtain ⟨k, hkj⟩ : ∃ k, ks[j]? = some k := ⟨_, List.getElem?_eq_getElem (by omega)⟩
    have hz : kA.size ≤ vs.length := by
      have h1 := hk.length
      rw [Array.length_toList, List.length_take] at h1
      omega
    refine wpAny_bind (wpAny_attempt (wpAny_mono (turn j x k hx hkj s' _ _ gs nk' na' (fun v z => (nomatch z)) fun v z => (nomatch z)) (fun v s2 he => ?_) fun _ _ hF => hF.elim))
    obtain ⟨g2, nk2, na2, t, rfl⟩ := he
    try dsimp only
    have s1 := Heap.SameBut.update s2.heap kS (Obj.mapSeq (·.push (Value.int k t)))
    obtain ⟨c2, hc2⟩ : ∃ c2, (s2.heap.update kS (Obj.mapSeq (·.push (Value.int k t)))).get? kS = some (seqObj "list" (kA.push (Value.int k t)) c2) := ⟨_, get?_update_seq nk2 (·.push (Value.int k t))⟩
    have ek : ks.take (j + 1) = ks.take j ++ [k] := by rw [List.take_add_one, hkj]; simp
    refine wpAny_bind (listUpdate_at nk2 rfl ?_ (Nat.le_trans hz hZ) (Nat.le_trans (Nat.le_of_eq (Array.size_push ..)) (Nat.succ_le_succ (Nat.le_trans hz hZ))))
    refine wpAny_pure ⟨rfl, put s2 _ g2 s1, kA.push (Value.int k t), c2, hc2, (s1.2 a hka.symm).trans na2, ?_⟩
    rw [show (kA.push (Value.int k t)).toList = kA.toList ++ [Value.int k t] by simp, ek]
    exact each_snoc (R := fun v (k : Int) => ∃ t, v = Value.int k t) ⟨t, rfl⟩ hk
  case done =>
    rintro s' ⟨gs, kA, e, nk', na', hk⟩
    have e3 : ks.take (0 + vs.length) = ks := List.take_of_length_le (by omega)
    rw [e3] at hk
    have hk' : EachIs (fun v d => ∃ as, Reads s'.heap v d as) kA.toList (ks.map PyData.int) := each_map (R := fun v d => ∃ as, Reads s'.heap v d as) PyData.int (hk.mono fun v k ⟨t, e⟩ => ⟨[], by rw [e]; exact .int k t⟩)
    have hsz : kA.size = vs.length := by
      have h1 := hk'.length
      rw [Array.length_toList, List.length_map] at h1
      omega
    try dsimp only
    refine wpAny_bind (listItems_at nk' rfl ?_)
    have hu' : ∀ d, d ∈ ks.map PyData.int → A.units + d.depth < cLine := fun d hd => by
      obtain ⟨i, _, rfl⟩ := List.mem_map.mp hd
      show A.units + 0 < cLine
      exact hu
    have kp : KeepsBut a (gone s'.heap kS) s'.heap := fun x o _ q => by
      by_cases hx : x = kS
      · rw [hx, gone_at] at q; cases q
      · rw [gone_ne hx] at q; exact q
    refine keyH_end (κ := dataKind s'.heap (ks.map .int)) (h₁ := gone s'.heap kS) kp (gone_at _ _) nk' na' hka (SortsAt.data (s := s') hk' (ints_alike ks) (ints_sortable ks) hu') hsz hZ fun h3 tk3 c k3 n3 => ?_
    exact fin s' h3 tk3 _ c gs (fun x o hx hx2 q => k3 x o hx (by rw [gone_ne hx2]; exact q)) n3 ⟨s'.heap, kA.toList, ints_alike ks, rfl, hk'⟩
end
end SG
namespace SG
open PySem PySem.W PySem.Calls PyProof.Rows
section
variable {prog : Program} {w : World} {A : Around} {E : Value → Shared → Prop} {s : Shared} {a : Addr} {vs : List Value} {P : PySem.Fin → Shared → Prop} {ks : List Int} {f : Value} {b : Bool}
theorem keyG_tree {n : Nat} (ho : s.heap.get? a = some (seqObj "list" vs.toArray n)) (hlen : ks.length = vs.length) (hZ : vs.length ≤ sizeLine) (hu : A.units < cLine) (G : Shared → Prop)
    (g0 : ∀ h1, (∀ x o, x ≠ a → s.heap.get? x = some o → h1.get? x = some o) → G { s with heap := h1 })
    (put : ∀ s1 h1, G s1 → Heap.SameBut (s.heap.objs.size + 1) s1.heap h1 → G { s1 with heap := h1 })
    (turn : ∀ (i : Nat) (v : Value) (k : Int), vs[i]? = some v → ks[i]? = some k → ∀ s1 ob oa, G s1 → s1.heap.get? (s.heap.objs.size + 1) = some ob → s1.heap.get? a = some oa → (∀ v, ob.data ≠ .cell v) → (∀ v, oa.data ≠ .cell v) →
      wpAny (model prog w) A (call f [v]) (fun u s2 => G s2 ∧ s2.heap.get? (s.heap.objs.size + 1) = some ob ∧ s2.heap.get? a = some oa ∧ ∃ t, u = .int k t) (fun _ _ => False) s1)
    (fin : ∀ s1 h2 tk out c, G s1 → (∀ x o, x ≠ a → x ≠ s.heap.objs.size + 1 → s1.heap.get? x = some o → h2.get? x = some o) → h2.get? a = some (seqObj "list" (List.toArray out) c) → KeyedOut b (ks.map .int) vs out → P (.done (.ret .none)) { s1 with heap := h2, toks := tk }) :
    wpAny (model prog w) A (ksk_tree a f b) P E s := by
  have la : a < s.heap.objs.size := Heap.lt_size ho
  obtain ⟨e1, ho1⟩ : ∃ e1, (s.heap.update a (Obj.mapSeq fun _ => (#[] : Array Value))).get? a = some (seqObj "list" #[] e1) := ⟨_, get?_update_seq ho fun _ => #[]⟩
  have sz : ((s.heap.update a (Obj.mapSeq fun _ => (#[] : Array Value))).push (seqObj "tuple" vs.toArray 0)).objs.size = s.heap.objs.size + 1 := by rw [size_push', Heap.size_update]
  have nk := Heap.get?_push_size ((s.heap.update a (Obj.mapSeq fun _ => (#[] : Array Value))).push (seqObj "tuple" vs.toArray 0)) (o := seqObj "list" #[] 0) rfl
  unfold ksk_tree
  refine wpAny_bind (listItems_at ho rfl ?_)
  refine wpAny_bind (listUpdate_at ho rfl ?_ (by rw [List.size_toArray]; exact hZ) (Nat.zero_le _))
  refine wpAny_bind (seqEpoch_at ho1 rfl ?_)
  refine wpAny_bind (wpAny_newTuple ?_ (by show vs.length ≤ _; exact hZ))
  refine wpAny_bind (wpAny_newList ?_ (Nat.zero_le _))
  refine wpAny_holding ?_
  show wpAny _ _ (ksk_rest a f b vs.toArray e1 (.ref ((s.heap.update a (Obj.mapSeq fun _ => (#[] : Array Value))).push (seqObj "tuple" vs.toArray 0)).objs.size)) _ _ { s with heap := ((s.heap.update a (Obj.mapSeq fun _ => (#[] : Array Value))).push (seqObj "tuple" vs.toArray 0)).push (seqObj "list" #[] 0) }
  rw [sz] at nk ⊢
  exact keyG_rest G (g0 _ fun x o hx q => sortingHeap_old hx q) nk (Heap.get?_push_of_some _ (Heap.get?_push_of_some _ ho1)) (Nat.ne_of_gt (Nat.lt_succ_of_lt la)) hlen hZ hu put turn fin
theorem sorted_keyG {l q x y : Addr} {Q : Value → Shared → Prop} (hl : s.heap.IsList l vs.toArray) (ex : x = (copyHeap s.heap vs).objs.size + 1) (ey : y = s.heap.objs.size + 1) (hlen : ks.length = vs.length) (hZ : vs.length ≤ sizeLine) (hu : A.units + 2 < cLine) (G : Shared → Prop)
    (g0 : ∀ h1, (∀ z o, s.heap.get? z = some o → h1.get? z = some o) → G { s with heap := h1 })
    (put : ∀ s1 h1, G s1 → Heap.SameBut x s1.heap h1 → G { s1 with heap := h1 })
    (turn : ∀ (i : Nat) (v : Value) (k : Int), vs[i]? = some v → ks[i]? = some k → ∀ s1 ob oa, G s1 → s1.heap.get? x = some ob → s1.heap.get? y = some oa → (∀ v, ob.data ≠ .cell v) → (∀ v, oa.data ≠ .cell v) →
      wpAny (model prog w) A.in1.in1 (call (.ref q) [v]) (fun u s2 => G s2 ∧ s2.heap.get? x = some ob ∧ s2.heap.get? y = some oa ∧ ∃ t, u = .int k t) (fun _ _ => False) s1)
    (fin : ∀ s1 h2 tk out c, G s1 → (∀ z o, z ≠ y → z ≠ x → s1.heap.get? z = some o → h2.get? z = some o) → h2.get? y = some (seqObj "list" (List.toArray out) c) → KeyedOut false (ks.map .int) vs out → Q (.ref y) { s1 with heap := h2, toks := tk }) :
    wpAny (model prog w) A (call (.builtin "sorted") [.ref l] [(Str.ofString "key", .ref q)]) Q E s := by
  subst ex ey
  refine sorted_of_sort hl hZ (ksk_s1 _ _) (fun _ => ksk_l1 _ _) fun E' => ?_
  rw [ksk_t1]
  refine keyG_tree (s := { s with heap := copyHeap s.heap vs }) (copyHeap_at s.heap vs) hlen hZ (show A.in1.in1.units < cLine from hu) G (fun h1 k => ?_) put turn fun s1 h2 tk out c g1 k1 ho ko => ⟨rfl, fin s1 h2 tk out c g1 k1 ho ko⟩
  exact g0 h1 fun z o q => k z o (Nat.ne_of_lt (Nat.lt_succ_of_lt (Heap.lt_size q))) (copyHeap_old q)
theorem copy_size (s : Shared) (vs : List Value) : s.heap.objs.size + 1 ≤ (copyHeap s.heap vs).objs.size := Nat.le_of_lt (Heap.lt_size (copyHeap_at s.heap vs))
end
end SG
namespace DL
open PySem PySem.Spec PyProof.Rows L2
mutual
theorem rep_py {K : PySem.W.Frag} {Hb : Hp} {ρ ρ2 : List Addr} : ∀ {w : DV} {v : V} {d : PyData}, Rep K Hb ρ v w → toPy w = some d → Rep K Hb ρ2 v w
  | .non, _, _, r, _ => by cases r; exact .non
  | .bl b, _, _, r, _ => by cases r; exact .bl b
  | .int i, _, _, r, _ => by cases r; exact .int i
  | .str x, _, _, r, _ => by cases r; exact .str x
  | .tup ws, _, _, r, e => by
    cases r with
    | tup hq rr =>
      unfold toPy at e
      obtain ⟨ds, e1, _⟩ := Option.map_eq_some_iff.mp e
      exact .tup hq (reps_py rr e1)
  | .lst ws, _, _, r, e => by
    cases r with
    | lst hq rr =>
      unfold toPy at e
      obtain ⟨ds, e1, _⟩ := Option.map_eq_some_iff.mp e
      exact .lst hq (reps_py rr e1)
  | .brw ws, _, _, r, e => by cases r
  | .ref n, _, _, r, e => by cases e
  | .con v, _, _, r, e => by cases e
theorem reps_py {K : PySem.W.Frag} {Hb : Hp} {ρ ρ2 : List Addr} : ∀ {ws : List DV} {vs : List V} {ds : List PyData}, Reps K Hb ρ vs ws → toPys ws = some ds → Reps K Hb ρ2 vs ws
  | [], _, _, r, _ => by cases r; exact .nil
  | w :: ws, _, _, r, e => by
    cases r with
    | cons r1 rr =>
      unfold toPys at e
      obtain ⟨d, e1, e⟩ := Option.bind_eq_some_iff.mp e
      obtain ⟨ds, e2, _⟩ := Option.map_eq_some_iff.mp e
      exact .cons (rep_py r1 e1) (reps_py rr e2)
end
open Classical in
noncomputable def lendAll (ρ : List Addr) (Fr H : Hp) : Hp := fun a => if a ∈ ρ then H a else Fr a
theorem rel_lend {K : PySem.W.Frag} {Hb : Hp} {ρ : List Addr} {Fr H : Hp} {h : DH} (R : Rel K Hb ρ Fr h H) : Rel K Hb [] (lendAll ρ Fr H) [] H := by
  refine ⟨R.sub, fun a o q => ?_, fun a o q => ?_, rfl, fun n a c e => by simp at e, fun n a e => by simp at e, fun n m a e => by simp at e, fun a o q xs => ?_⟩
  · unfold lendAll at q
    by_cases ha : a ∈ ρ
    · rw [if_pos ha] at q; exact q
    · rw [if_neg ha] at q; exact R.fr a o q
  · unfold lendAll at q
    by_cases ha : a ∈ ρ
    · obtain ⟨n, hn⟩ := List.mem_iff_getElem?.mp ha
      exact (R.out n a hn).1
    · rw [if_neg ha] at q; exact R.ap a o q
  · unfold lendAll at q
    by_cases ha : a ∈ ρ
    · rw [if_pos ha] at q
      obtain ⟨n, hn, e⟩ := List.mem_iff_getElem.mp ha
      have e' : ρ[n]? = some a := by rw [List.getElem?_eq_getElem hn, e]
      have hl : n < h.length := by rw [← R.len]; exact hn
      obtain ⟨u, q', z⟩ := (R.cell n a h[n] e' (List.getElem?_eq_getElem hl)).some
      rw [q'] at q
      cases q
      exact z xs
    · rw [if_neg ha] at q; exact R.ft a o q xs
theorem rel_back {K : PySem.W.Frag} {Hb Hb' : Hp} {ρ : List Addr} {Fr H H' : Hp} {h : DH} (R : Rel K Hb ρ Fr h H) (s1 : Same Hb Hb') (R' : Rel K Hb' [] (lendAll ρ Fr H) [] H') : Rel K Hb' ρ Fr h H' := by
  have get : ∀ (n : Nat) (a : Addr), ρ[n]? = some a → ∃ o, H a = some o := fun n a e => by
    have hl : n < h.length := by rw [← R.len]; exact (List.getElem?_eq_some_iff.mp e).1
    obtain ⟨o, e2, _⟩ := (R.cell n a h[n] e (List.getElem?_eq_getElem hl)).some
    exact ⟨o, e2⟩
  have lent : ∀ (n : Nat) (a : Addr) (o : HO), ρ[n]? = some a → H a = some o → lendAll ρ Fr H a = some o := fun n a o e q => by
    unfold lendAll
    rw [if_pos (List.mem_of_getElem? e)]
    exact q
  have old : ∀ (a : Addr) (o : HO), Fr a = some o → lendAll ρ Fr H a = some o := fun a o q => by
    unfold lendAll
    by_cases ha : a ∈ ρ
    · obtain ⟨n, hn⟩ := List.mem_iff_getElem?.mp ha
      rw [(R.out n a hn).2] at q
      cases q
    · rw [if_neg ha]; exact q
  refine ⟨R'.sub, fun a o q => R'.fr a o (old a o q), fun a o q => R'.ap a o (old a o q), R.len, fun n a c e1 e2 => ?_, fun n a e => ?_, R.inj, fun a o q => R'.ft a o (old a o q)⟩
  · exact (R.cell n a c e1 e2).move s1 (List.prefix_refl _) fun o q => R'.fr a _ (lent n a _ e1 q)
  · obtain ⟨xs, q⟩ := get n a e
    exact ⟨R'.ap a _ (lent n a _ e q), (R.out n a e).2⟩
def key1 : Res DV → Option Int
  | .ok (.int k) [] => some k
  | _ => none
def keysD (F : Fn) : List DV → Option (List Int)
  | [] => some []
  | w :: ws => (key1 (F [w] [])).bind fun k => (keysD F ws).map fun ks => k :: ks
theorem key1_eq {r : Res DV} {k : Int} (e : key1 r = some k) : r = .ok (.int k) [] := by
  unfold key1 at e
  split at e
  · cases e; rfl
  · cases e
theorem keysD_len {F : Fn} : ∀ {ws : List DV} {ks : List Int}, keysD F ws = some ks → ks.length = ws.length
  | [], _, e => by cases e; rfl
  | w :: ws, _, e => by
    obtain ⟨k, _, e⟩ := Option.bind_eq_some_iff.mp e
    obtain ⟨ks, e2, e⟩ := Option.map_eq_some_iff.mp e
    subst e
    exact congrArg (· + 1) (keysD_len e2)
theorem keysD_get {F : Fn} : ∀ {ws : List DV} {ks : List Int} {i : Nat} {w : DV} {k : Int}, keysD F ws = some ks → ws[i]? = some w → ks[i]? = some k → F [w] [] = .ok (.int k) []
  | [], _, _, _, _, _, e, _ => by cases e
  | w :: ws, _, i, _, _, e, e1, e2 => by
    obtain ⟨k, ek, e⟩ := Option.bind_eq_some_iff.mp e
    obtain ⟨ks, e3, e⟩ := Option.map_eq_some_iff.mp e
    subst e
    cases i with
    | zero => cases e1; cases e2; exact key1_eq ek
    | succ i => exact keysD_get (i := i) e3 e1 e2
theorem spD_key {K : PySem.W.Frag} {mg : Str → Option Value} {F : Fn} {Hb : Hp} {ρ : List Addr} {Fr H : Hp} {h : DH} {x : V} {w : DV} {d : PyData} {k : Int} {E : XK} (R : Rel K Hb ρ Fr h H) (r : Rep K Hb ρ x w) (hd : toPy w = some d) (e : F [w] [] = .ok (.int k) []) :
    spD K mg 1 F [x] H (fun v H' => v = .int k ∧ ∃ Hb', Same Hb Hb' ∧ Rel K Hb' ρ Fr h H') E := by
  refine ⟨rfl, Hb, [], lendAll ρ Fr H, [], [w], rel_lend R, .cons (.per (rep_py r hd)) .nil, ?_⟩
  rw [e]
  intro Hb' ρ' H' v s1 p1 R' r'
  have hρ : ρ' = [] := List.eq_nil_of_length_eq_zero R'.len
  subst hρ
  cases r'
  exact ⟨rfl, Hb', s1, rel_back R s1 R'⟩
end DL
namespace DL
open PySem PySem.Spec PyProof.Rows L2
def zip3i : List V → List DV → List Int → List (V × DV × Int)
  | v :: vs, w :: ws, k :: ks => (v, w, k) :: zip3i vs ws ks
  | _, _, _ => []
theorem zip3i_ok {K : PySem.W.Frag} {Hb : Hp} {ρ : List Addr} : ∀ {vs : List V} {ws : List DV} {ks : List Int}, Reps K Hb ρ vs ws → ks.length = ws.length →
    (zip3i vs ws ks).map (·.1) = vs ∧ (zip3i vs ws ks).map (·.2) = ws.zip ks ∧ (zip3i vs ws ks).map (·.2.2) = ks ∧ ∀ b ∈ zip3i vs ws ks, Rep K Hb ρ b.1 b.2.1
  | _, _, [], .nil, _ => ⟨rfl, rfl, rfl, fun b hb => absurd hb List.not_mem_nil⟩
  | _, _, _ :: _, .nil, e => by cases e
  | _, _, [], .cons _ _, e => by cases e
  | _, _, k :: ks, .cons r rr, e => by
    obtain ⟨h1, h2, h3, h4⟩ := zip3i_ok rr (Nat.succ.inj e)
    refine ⟨congrArg (_ :: ·) h1, congrArg (_ :: ·) h2, congrArg (_ :: ·) h3, fun b hb => ?_⟩
    rcases List.mem_cons.mp hb with rfl | hb
    · exact r
    · exact h4 b hb
theorem toPys_get : ∀ {ws : List DV} {ds : List PyData} {i : Nat} {w : DV}, toPys ws = some ds → ws[i]? = some w → ∃ d, toPy w = some d
  | [], _, _, _, _, e => by cases e
  | w :: ws, _, i, _, e, e1 => by
    unfold toPys at e
    obtain ⟨d, ed, e⟩ := Option.bind_eq_some_iff.mp e
    obtain ⟨ds, e2, _⟩ := Option.map_eq_some_iff.mp e
    cases i with
    | zero => cases e1; exact ⟨d, ed⟩
    | succ i => exact toPys_get (i := i) e2 e1
def rSortKey (K : PySem.W.Frag) (f : Addr) (F : Fn) : List V → List V → Hp → VK → Prop := fun vs zs H Q => ∃ (a : Addr) (xs : List V) (ws : List DV) (ds : List PyData) (ks : List Int) (Hb : Hp) (ρ : List Addr) (Fr : Hp) (h : DH),
  vs = [.ref a] ∧ zs = [.ref f] ∧ SqL K H a xs ∧ Reps K Hb ρ xs ws ∧ Rel K Hb ρ Fr h H ∧ toPys ws = some ds ∧ keysD F ws = some ks ∧
  ∀ (Hb' H' : Hp) (p : Addr), Same Hb Hb' → Rel K Hb' ρ Fr h H' → H' p = none → Q (.ref p) (upd H' p (.lst (((zip3i xs ws ks).mergeSort (PySem.W.dataLe false fun b => .int b.2.2)).map (·.1))))
theorem cr_sortKey {X : Cx} {k : Nat} {f : Addr} {fd : FuncData} {ps : List Str} {F : Fn} (Fk : FnOk X.prog X.w X.K X.mg X.base (L2.CX X.prog X.w) k f fd ps (spD X.K X.mg 1 F)) (hr : Room (k + 2) X.A) (hb : L2.Binds X.K fd ps []) :
    CallRK X (.builtin "sorted") [Str.ofString "key"] (rSortKey X.K f F) := by
  intro pins s σ H vs zs us wz Q I r rz hh
  obtain ⟨a, xs, ws, ds, ks, Hb, ρ, Fr, h, rfl, rfl, hs, rr, R, hd, hk, q⟩ := hh
  obtain ⟨its, rv, hl, hz⟩ := I.list hs
  rw [Vals.ref1 r]
  obtain ⟨uf, rfl, ru⟩ := vals1 rz
  obtain rfl : uf = Value.ref f := ru
  have lk := keysD_len hk
  have l1 := rr.length
  have l2 := rv.length
  obtain ⟨z1, z2, z3, z4⟩ := zip3i_ok (ks := ks) rr lk
  have cs := SG.copy_size s its
  generalize ex : (PySem.W.copyHeap s.heap its).objs.size + 1 = x
  generalize ey : s.heap.objs.size + 1 = y
  have bx : s.heap.objs.size ≤ x := by omega
  have bY : s.heap.objs.size ≤ y := by omega
  have fx : FpOk X pins H x := I.fpOk bx (I.hok.fresh bx)
  have fy : FpOk X pins H y := I.fpOk bY (I.hok.fresh bY)
  have hlen : ks.length = its.length := by omega
  refine SG.sorted_keyG (ks := ks) (x := x) (y := y) hl.isList ex.symm ey.symm hlen (by rw [← l2]; exact hz) (by have := hr.un; omega)
    (fun s1 => ∃ Hb1 H1, Inv X pins σ H1 s1 ∧ Same Hb Hb1 ∧ Rel X.K Hb1 ρ Fr h H1 ∧ H1 x = none ∧ H1 y = none) (fun h1 kp => ?_) (fun s1 h1 g1 sb => ?_) (fun i v kk hv hkk s1 ob oa g1 gx gy n1 n2 => ?_) (fun s1 h2 tk out c g1 kp ho ko => ?_)
  · exact ⟨Hb, H, I.kept (t' := s.toks) kp, Same.refl _, R, I.hok.fresh bx, I.hok.fresh bY⟩
  · obtain ⟨Hb1, H1, I1, s01, R1, nx, ny⟩ := g1
    exact ⟨Hb1, H1, I1.turned (t' := s1.toks) (fun b o hb e => (sb.2 b hb).trans e) nx fx.2.1 fx.2.2.2.1 fx.2.2.2.2.1 fx.2.2.2.2.2, s01, R1, nx, ny⟩
  · obtain ⟨Hb1, H1, I1, s01, R1, nx, ny⟩ := g1
    have hi : i < ws.length := by
      have := (List.getElem?_eq_some_iff.mp hv).1
      omega
    have hw : ws[i]? = some ws[i] := List.getElem?_eq_getElem hi
    obtain ⟨xv, hx, rx⟩ := rr.get hw
    obtain ⟨u, hu, rxu⟩ := rv.get hx
    have eu : u = v := by
      have z := hu.symm.trans hv
      cases z
      rfl
    subst eu
    obtain ⟨d, edw⟩ := toPys_get hd hw
    have eF := keysD_get hk hw hkk
    have I2 : Inv X ((x, ob) :: (y, oa) :: pins) σ H1 s1 := I1.pins_of fun p hp => by
      rcases List.mem_cons.mp hp with rfl | hp
      · exact ⟨gx, nx, fx.2.1, fx.2.2.1, n1⟩
      · rcases List.mem_cons.mp hp with rfl | hp
        · exact ⟨gy, ny, fy.2.1, fy.2.2.1, n2⟩
        · exact I1.pin p (List.mem_append_right _ hp)
    have sp := spD_key (mg := X.mg) (E := E0) R1 (rx.mono s01 (List.prefix_refl _)) edw eF
    have hlp : ([u] ++ ([] : List Value)).length = ps.length := Fk.len _ _ _ _ sp
    refine wpAny_call (codeAny_mono (Fk.run X.A.in1.in1 X.stack s1 H1 ⟨[u], []⟩ ([u] ++ []) [xv] _ E0 hr.in1.in1 I2.env0.in1.in1 (hb s1 [u] I2.kIn hlp) (.cons rxu .nil) sp) fun r s2 hq => ?_)
    cases r with
    | error e =>
      obtain ⟨_, _, _, _, _, _, _, _, _, _, _, _, z⟩ := hq
      exact z.elim
    | ok fl =>
      cases fl with
      | ret u2 =>
        obtain ⟨v2, H2, I3, r2, e2, Hb2, s12, R2⟩ := I2.after hq
        subst e2
        have px := I3.pin (x, ob) (List.mem_append_right _ List.mem_cons_self)
        have py := I3.pin (y, oa) (List.mem_append_right _ (List.mem_cons_of_mem _ List.mem_cons_self))
        refine ⟨⟨Hb2, H2, I3.pins_of fun p hp => I3.pin p (List.mem_append_right _ (List.mem_cons_of_mem _ (List.mem_cons_of_mem _ hp))), s01.trans s12, R2, px.2.1, py.2.1⟩, px.1, py.1, ?_⟩
        obtain ⟨t, rfl⟩ := r2
        exact ⟨t, rfl⟩
      | next => exact hq.elim
      | brk => exact hq.elim
      | cont => exact hq.elim
  · obtain ⟨Hb1, H1, I1, s01, R1, nx, ny⟩ := g1
    have I2 : Inv X pins σ H1 { s1 with heap := h2, toks := tk } := I1.turnedL (ch := [x, y]) (fun b o hb e => kp b o (fun z => hb (by simp [z])) (fun z => hb (by simp [z])) e) fun b hb => by
      rcases (show b = x ∨ b = y by simpa using hb) with rfl | rfl
      · exact ⟨nx, fx.2⟩
      · exact ⟨ny, fy.2⟩
    have e := each_vals (f := fun b : V × DV × Int => b.1) (by rw [z1]; exact rv)
    have ek : ks.map PyData.int = (zip3i xs ws ks).map fun b => PyData.int b.2.2 := by
      conv => lhs; rw [← z3]
      rw [List.map_map]
      rfl
    rw [ek] at ko
    have ev := vals_each (f := fun b : V × DV × Int => b.1) (PySem.W.keyedOut_each (fun b : V × DV × Int => PyData.int b.2.2) ko e)
    have hsz : (((zip3i xs ws ks).mergeSort (PySem.W.dataLe false fun b => .int b.2.2)).map (·.1)).length ≤ sizeLine := by
      rw [List.length_map, List.length_mergeSort, ← List.length_map (f := fun b : V × DV × Int => b.1), z1]
      exact hz
    have I3 := I2.take (t' := tk) (h' := h2) (it := y) (o := .lst (((zip3i xs ws ks).mergeSort (PySem.W.dataLe false fun b => .int b.2.2)).map (·.1))) (fun b ob _ e => e) ⟨ny, fy.2⟩ ⟨hsz, out, c, ev, ho⟩
    exact ⟨.ref y, _, I3, rfl, q Hb1 H1 y s01 R1 ny⟩
end DL
namespace DL
open PySem PySem.Spec PyProof.Rows L2
def sortK (ws : List DV) (ks : List Int) : List DV := ((ws.zip ks).mergeSort fun a b => decide (a.2 ≤ b.2)).map (·.1)
def dSortKey (F : Fn) (d : DE) : DE := fun σ h => (d σ h).bind fun w h1 => ofO ((lstOf w).bind fun ws => (toPys ws).bind fun _ => (keysD F ws).map fun ks => .lst (sortK ws ks)) h1
theorem sortK_eq {K : PySem.W.Frag} {Hb : Hp} {ρ : List Addr} {vs : List V} {ws : List DV} {ks : List Int} (r : Reps K Hb ρ vs ws) (e : ks.length = ws.length) :
    Reps K Hb ρ (((zip3i vs ws ks).mergeSort (PySem.W.dataLe false fun b => .int b.2.2)).map (·.1)) (sortK ws ks) := by
  obtain ⟨z1, z2, z3, z4⟩ := zip3i_ok r e
  have e3 : sortK ws ks = ((zip3i vs ws ks).mergeSort (PySem.W.dataLe false fun b => .int b.2.2)).map (·.2.1) := by
    unfold sortK
    rw [← z2, ← PySem.W.sort_maps (r := PySem.W.dataLe false fun b : V × DV × Int => .int b.2.2) (fun b : V × DV × Int => b.2) fun a _ b _ => by rw [PySem.W.dataLe_int], List.map_map]
    rfl
  rw [e3]
  have all : ∀ b ∈ (zip3i vs ws ks).mergeSort (PySem.W.dataLe false fun b => .int b.2.2), Rep K Hb ρ b.1 b.2.1 := fun b hb => z4 b ((List.mergeSort_perm _ _).mem_iff.mp hb)
  generalize (zip3i vs ws ks).mergeSort (PySem.W.dataLe false fun b => .int b.2.2) = bs at all
  induction bs with
  | nil => exact .nil
  | cons b bs ih => exact .cons (all b List.mem_cons_self) (ih fun b' hb => all b' (List.mem_cons_of_mem _ hb))
section
variable {X : Cx} {E : L2.St → XK} {e : Expr} {d : DE}
theorem se_sortKey {fn : Str} {p p2 kpos pos : Pos} {k j : Nat} {F : Fn} (hf : DefOk X.prog X.w X.K X.mg X.base fn k 1 F) (hr : Room j X.A) (hj : k + 2 ≤ j) (hg : Gl X "sorted") (hm : X.mg "sorted" = none) (hv : bootBuiltins "sorted" = some (.builtin "sorted")) (hgf : Gl X fn) (ha : SE X E e d)
    (hdf : (fn == ("__debug__" : Str)) = false := by decide) (hs1 : starEach [e] X.env = (false, eval e X.env) :: starEach [] X.env := by rfl)
    (he : backTo pos (starEach [e] X.env) = (false, eval e X.env) :: backTo pos (starEach [] X.env) := by rfl) (hpl : (backTo pos (starEach [e] X.env)).any (·.1) = false := by rfl)
    (hall : (backToKw pos (keywordEach [⟨some "key", .Name fn p2, kpos⟩] X.env)).all (·.1.isSome) = true := by rfl) (hnone : (backToKw pos (keywordEach [⟨some "key", .Name fn p2, kpos⟩] X.env)).any (·.1.isNone) = false := by rfl)
    (hks : (backToKw pos (keywordEach [⟨some "key", .Name fn p2, kpos⟩] X.env)).filterMap (·.1) = [Str.ofString "key"] := by rfl) :
    SE X E (.Call (.Name "sorted" p) [e] [⟨some "key", .Name fn p2, kpos⟩] pos) (dSortKey F d) := by
  obtain ⟨f, fd, ps, h1, h2, h3, h4⟩ := hf.ex
  refine (pe_callBK (cr_sortKey h1 (hr.mono hj) h4) hg hm hv (pa_cons ha pa_nil hs1) (pk_cons (nm := some "key") (pe_glob hgf h2 (show RelV (V.ref f) (Value.ref f) from rfl) hdf) pk_nil) (by decide) (by decide) he hpl hall hnone hks).weak fun s H Q ⟨Hb, ρ, F0, Fr, σ, h, R, x, k⟩ => ?_
  refine ⟨Hb, ρ, F0, Fr, σ, h, R, x, (Rz.bind k).imp (fun w h1 k => ?_) fun _ _ z => z⟩
  obtain ⟨rw', er, kz⟩ := Rz.ofO k
  obtain ⟨ws, e1, er⟩ := Option.bind_eq_some_iff.mp er
  obtain ⟨ds, e2, er⟩ := Option.bind_eq_some_iff.mp er
  obtain ⟨ks, e3, er⟩ := Option.map_eq_some_iff.mp er
  subst er
  intro Hb1 ρ1 H1 v s1 p1 R1 r1
  obtain ⟨q, ys, ex, hq, rr⟩ := lstR_of R1 r1 e1
  exact ⟨q, ys, ws, ds, ks, Hb1, ρ1, Fr, h1, by rw [ex], rfl, hq, rr, R1, e2, e3, fun Hb' H' c s2 R2 hc => Pst.lst R2 (Pst.back (s1.trans s2) p1 _ _ kz) (sortK_eq (rr.mono s2 (List.prefix_refl _)) (keysD_len e3)) c hc⟩
end
end DL
namespace DL
open PySem PySem.Spec PyProof.Rows L2
def rMaxI (K : PySem.W.Frag) : List V → Hp → VK → Prop := fun vs H Q => ∃ (a : Addr) (n : Int) (ns : List Int), vs = [V.ref a] ∧ (SqL K H a ((n :: ns).map V.int) ∨ SqT K H a ((n :: ns).map V.int)) ∧ Q (.int (ns.foldl max n)) H
theorem dp_ints {K : PySem.W.Frag} {H : Hp} : ∀ ns : List Int, DpAll K H (ns.map V.int) (ns.map PyData.int)
  | [] => .nil
  | n :: ns => .cons (.int n) (dp_ints ns)
theorem alike_ints (ns : List Int) : PySem.W.AlikeAll (ns.map PyData.int) := by
  refine ⟨fun x hx y hy => ?_, fun x hx e => ?_⟩
  · obtain ⟨i, _, rfl⟩ := List.mem_map.mp hx
    obtain ⟨j, _, rfl⟩ := List.mem_map.mp hy
    rfl
  · obtain ⟨i, _, rfl⟩ := List.mem_map.mp hx
    cases e
section
variable {X : Cx}
theorem cr_maxI (hc : X.calm = true) (hu : X.A.units + 64 < cLine) : CallR X (.builtin "max") (rMaxI X.K) := by
  intro pins s σ H vs us Q I r h
  obtain ⟨a, n, ns, rfl, hs, q⟩ := h
  rw [Vals.ref1 r]
  have dep : X.A.units + 1 + PyData.depthAll (PyData.int n :: ns.map PyData.int) < cLine := by
    have e := PySem.W.depth_ints (n :: ns)
    rw [List.map_cons] at e
    rw [e]
    omega
  have fin : ∀ (v : Value) (h' : Heap) (tk : Nat) (bs : List Addr), Reads h' v (PySem.W.maxD (.int n) (ns.map .int)) bs → (∀ b o, s.heap.get? b = some o → h'.get? b = some o) → EP X pins σ Q v { s with heap := h', toks := tk } := fun v h' tk bs rd kp => by
    rw [PySem.W.maxD_ints] at rd
    cases rd with
    | int i t => exact ⟨.int (ns.foldl max n), H, I.kept (t' := tk) kp, ⟨t, rfl⟩, q⟩
  rcases hs with hs | hs
  · obtain ⟨its, rv, hl, _⟩ := I.list hs
    obtain ⟨as, rd⟩ := Dp.readsAll I _ _ _ (dp_ints (n :: ns)) rv
    exact PySem.W.max_list_data (I.ok.hd hc) hl.isList rd (alike_ints (n :: ns)) dep fun i v h' tk bs _ rd' kp => fin v h' tk bs rd' kp
  · obtain ⟨its, rv, hl, _⟩ := I.tuple hs
    obtain ⟨as, rd⟩ := Dp.readsAll I _ _ _ (dp_ints (n :: ns)) rv
    exact PySem.W.max_tuple_data (I.ok.hd hc) hl rd (alike_ints (n :: ns)) dep fun i v h' tk bs _ rd' kp => fin v h' tk bs rd' kp
def gMaxI : List DV → DH → Option DV := g1 fun w _ => (seqOf w).bind fun ws => (allI ws).bind fun ns => match ns with
  | [] => none
  | n :: ns => some (.int (ns.foldl max n))
theorem omaxI (hc : X.calm = true) (hu : X.A.units + 64 < cLine) : ∃ r, CallR X (.builtin "max") r ∧ CallD X r gMaxI := ⟨_, cr_maxI hc hu, cd1 fun Hb ρ Fr h H x a w Q R r1 e k => by
  obtain ⟨us, e1, e⟩ := Option.bind_eq_some_iff.mp e
  obtain ⟨ns, e2, e⟩ := Option.bind_eq_some_iff.mp e
  cases ns with
  | nil => cases e
  | cons n ns =>
    cases e
    obtain ⟨p, ys, ex, hq, rr⟩ := seq_of R r1 e1
    rw [allI_rep rr e2] at hq
    exact ⟨p, n, ns, by rw [ex], hq, Pst.same R k (.per (.int _))⟩⟩
theorem b_maxI {k : Nat} (hc : X.calm = true) (hr : Room k X.A) : Blt X (.builtin "max") gMaxI := ⟨omaxI hc (by have := hr.un; omega)⟩
end
end DL
namespace DL
open PySem PySem.Spec PyProof.Rows L2
def tDisp1 (tk tv : TE) : TE := fun σ H Q => ∀ p, H p = none → tk σ (upd H p (.dT [])) fun x H1 => tv σ H1 fun y H2 => H2 p = some (.dT []) ∧ ∃ (ks : List Key) (b : Addr), x = .ref b ∧ H2 b = some (.tup (ks.map kV)) ∧ Q (.ref p) (upd H2 p (.dT [(ks, y)]))
theorem pe_disp1 {X : Cx} {k v : Expr} {pos : Pos} {tk tv : TE} (hu : X.A.units + 1 + 1 < cLine) (hk : PE X k tk) (hv : PE X v tv) : PE X (.Dict [some k] [v] pos) (tDisp1 tk tv) := by
  refine ⟨fun pins s σ H Q I q => ?_⟩
  have hn := I.hok.fresh (Nat.le_refl s.heap.objs.size)
  have I1 := I.laid (a := s.heap.objs.size) (o := .dT []) (h' := s.heap.push { cls := .type "dict", data := .dict #[] }) (t' := s.toks) (fun _ _ q => Heap.get?_push_of_some _ q) (Nat.le_refl _) (dt_empty s.heap I.big)
  have hs : (pairTrees [some k] [v] X.env pos) ≠ [] := by intro z; cases z
  rw [arm_eval_Dict, zip_pairTrees [some k] [v] X.env pos rfl rfl, dictDisplay_pairs _ hs (by show 1 < 17; decide)]
  refine wpAny_bind (wpAny_standAt (wpAny_bind (wpAny_subDictH (knd := tupleKind (mixKind X.prog X.w)) (by show X.A.units < cLine; omega) (by show 1 ≤ 15; decide) ?_)))
  refine pairTrees_cons_walk (thn (hk.run pins _ σ _ _ I1 (q _ hn)) fun u s1 ⟨x, H1, I2, rx, q1⟩ => thn (hv.run pins s1 σ H1 _ I2 q1) fun w2 s2 ⟨y, H2, I3, ry, e2, ks, b, ex, eb, q2⟩ => pairTrees_nil_walk ?_)
  subst ex
  obtain rfl : u = Value.ref b := rx
  obtain ⟨z, hd, xs, rel, dd⟩ := dt_of I3.hok e2
  cases rel
  refine ⟨[(ks, b, w2)], ⟨rfl, rfl, key_of I3.hok eb, True.intro⟩, dd, fun h' tk dd' hsb => wpAny_pure ?_⟩
  obtain ⟨o, es, ep, hq, h2, h3, h4, _, h5⟩ := dd'
  have he : ∃ q, h'.get? s.heap.objs.size = some q := ⟨o, hq⟩
  refine ⟨.ref s.heap.objs.size, _, d_write (ob := .dT [(ks, y)]) I3 (by rw [e2]; exact True.intro) hsb he ⟨by rw [sizeLine_eq]; show 1 ≤ 16777216; omega, hd, [(ks, b, w2)], .cons ⟨rfl, ?_, ry⟩ .nil, o, es, ep, hq, h2, h3, h4, h5⟩, rfl, q2⟩
  rw [upd_ne (ne_of eb e2 (fun z => nomatch z))]
  exact eb
end DL
namespace DL
open PySem PySem.Spec PyProof.Rows L2
def valD {κ : Type} [DecidableEq κ] (kvs : List (κ × DV)) (k : κ) : Option DV := (kvs.find? fun e => decide (e.1 = k)).map (·.2)
def putD {κ : Type} [DecidableEq κ] (kvs : List (κ × DV)) (k : κ) (v : DV) : List (κ × DV) :=
  if (kvs.any fun e => decide (e.1 = k)) = true then kvs.map (fun e => if e.1 = k then (e.1, v) else e) else kvs ++ [(k, v)]
def tupI : DV → Option (List Int)
  | .tup ws => allI ws
  | _ => none
inductive DKy where
  | i (k : Int) | t (k : List Int)
def keyD : DM → DV → Option DKy
  | .I _, .int k => some (.i k)
  | .T _, w => (tupI w).map .t
  | _, _ => none
def lookD : DM → DKy → Option DV
  | .I kvs, .i k => valD kvs k
  | .T kvs, .t k => valD kvs k
  | _, _ => none
def storeD : DM → DKy → DV → Option DM
  | .I kvs, .i k, v => if kvs.length < cap then some (.I (putD kvs k v)) else none
  | .T kvs, .t k, v => if kvs.length < cap then some (.T (putD kvs k v)) else none
  | _, _, _ => none
def sizeD : DM → Nat
  | .I kvs => kvs.length
  | .T kvs => kvs.length
def isD : SV → Bool
  | .dct _ => true
  | .dx _ _ => true
  | _ => false
def noD : DSt → Bool
  | [] => true
  | q :: r => !isD q && noD r
def onlyD : Nat → DSt → Bool
  | _, [] => true
  | 0, _ :: r => noD r
  | i + 1, q :: r => !isD q && onlyD i r
def getM (σ : DSt) (i : Nat) : Option DM := match σ[i]? with
  | some (.dct m) => some m
  | _ => none
theorem noD_at : ∀ {σ : DSt} {j : Nat} {q : SV}, noD σ = true → σ[j]? = some q → isD q = true → False
  | [], j, m, _, e, _ => by simp at e
  | q :: r, 0, m, h, e, z => by
    simp at e; subst e
    simp [noD, z] at h
  | q :: r, j + 1, m, h, e, z => by
    unfold noD at h
    rw [Bool.and_eq_true] at h
    exact noD_at (j := j) h.2 (by simpa using e) z
theorem onlyD_is : ∀ {i : Nat} {σ : DSt} {j : Nat} {q : SV}, onlyD i σ = true → σ[j]? = some q → isD q = true → j = i
  | i, [], j, m, _, e, _ => by simp at e
  | 0, q :: r, 0, m, _, _, _ => rfl
  | 0, q :: r, j + 1, m, h, e, z => (noD_at (σ := r) (j := j) h (by simpa using e) z).elim
  | i + 1, q :: r, 0, m, h, e, z => by
    simp at e; subst e
    simp [onlyD, z] at h
  | i + 1, q :: r, j + 1, m, h, e, z => by
    unfold onlyD at h
    rw [Bool.and_eq_true] at h
    rw [onlyD_is (i := i) (j := j) h.2 (by simpa using e) z]
theorem onlyD_at {i : Nat} {σ : DSt} {j : Nat} {m : DM} (h : onlyD i σ = true) (e : σ[j]? = some (.dct m)) : j = i := onlyD_is h e rfl
theorem onlyD_dx {i : Nat} {σ : DSt} {j : Nat} {D : DX} {m : KN} (h : onlyD i σ = true) (e : σ[j]? = some (.dx D m)) : j = i := onlyD_is h e rfl
def dInD (i : Nat) (dk : DE) : DE := fun σ h => (dk σ h).bind fun w h1 => ofO ((getM σ i).bind fun m => (keyD m w).map fun k => .bl (lookD m k).isSome) h1
def dNotInD (i : Nat) (dk : DE) : DE := fun σ h => (dk σ h).bind fun w h1 => ofO ((getM σ i).bind fun m => (keyD m w).map fun k => .bl (!(lookD m k).isSome)) h1
def dGetD (i : Nat) (dk : DE) : DE := fun σ h => (dk σ h).bind fun w h1 => ofO ((getM σ i).bind fun m => (keyD m w).bind fun k => lookD m k) h1
def dGetE (i : Nat) (dk dv : DE) : DE := fun σ h => (dk σ h).bind fun w h1 => (dv σ h1).bind fun y h2 => ofO ((getM σ i).bind fun m => (keyD m w).map fun k => (lookD m k).getD y) h2
def dPutD (i : Nat) (dv dk : DE) : DS := fun σ h => (dv σ h).bind fun y h1 => chk (held y) (chk (onlyD i σ) ((ofO (getM σ i) h1).bind fun m h1 => (dk σ h1).bind fun w h2 => (ofO ((keyD m w).bind fun k => storeD m k y) h2).bind fun m' h3 => .ok (.next (σ.set i (.dct m'))) h3))
def dNewD1 (i : Nat) (dk dv : DE) : DS := fun σ h => (dk σ h).bind fun w h1 => (dv σ h1).bind fun y h2 => chk (held y) ((ofO (tupI w) h2).bind fun k h3 => .ok (.next (σ.set i (.dct (.T [(k, y)])))) h3)
def dNewDI (i : Nat) : DS := fun σ h => .ok (.next (σ.set i (.dct (.I [])))) h
def dNewDT (i : Nat) : DS := fun σ h => .ok (.next (σ.set i (.dct (.T [])))) h
section
variable {K : PySem.W.Frag} {Hb : Hp} {ρ : List Addr}
theorem kI_inj {a b : Int} (e : kI a = kI b) : a = b := by injection e
theorem kT_inj : ∀ {a b : List Int}, kT a = kT b → a = b
  | [], [], _ => rfl
  | [], _ :: _, e => by cases e
  | _ :: _, [], e => by cases e
  | x :: xs, y :: ys, e => by
    unfold kT at e
    rw [List.map_cons, List.map_cons] at e
    injection e with e1 e2
    rw [kI_inj e1, kT_inj (a := xs) (b := ys) e2]
theorem kT_kV : ∀ k : List Int, (kT k).map kV = k.map V.int
  | [] => rfl
  | x :: xs => congrArg (V.int x :: ·) (kT_kV xs)
theorem KvR.length {κ κ' : Type} {f : κ' → κ} : ∀ {l : List (κ × V)} {m : List (κ' × DV)}, KvR K Hb ρ f l m → l.length = m.length
  | _, _, .nil => rfl
  | _, _, .cons _ t => congrArg (· + 1) t.length
theorem KvR.val {κ κ' : Type} [DecidableEq κ] [DecidableEq κ'] {f : κ' → κ} (inj : ∀ a b, f a = f b → a = b) (k : κ') : ∀ {l : List (κ × V)} {m : List (κ' × DV)}, KvR K Hb ρ f l m →
    (valV l (f k) = none ∧ valD m k = none) ∨ ∃ v w, valV l (f k) = some v ∧ valD m k = some w ∧ Rep K Hb ρ v w
  | _, _, .nil => .inl ⟨rfl, rfl⟩
  | _, _, .cons (k := k0) (v := v) (w := w) (l := l) (m := m) r t => by
    by_cases e : k0 = k
    · subst e
      exact .inr ⟨v, w, valV_pos rfl, by simp [valD], r⟩
    · have e' : ¬ f k0 = f k := fun z => e (inj _ _ z)
      have h1 : valV ((f k0, v) :: l) (f k) = valV l (f k) := valV_neg e'
      have h2 : valD ((k0, w) :: m) k = valD m k := by simp [valD, e]
      rw [h1, h2]
      exact t.val inj k
theorem KvR.any {κ κ' : Type} [DecidableEq κ] [DecidableEq κ'] {f : κ' → κ} (inj : ∀ a b, f a = f b → a = b) (k : κ') : ∀ {l : List (κ × V)} {m : List (κ' × DV)}, KvR K Hb ρ f l m →
    (l.any fun e => decide (e.1 = f k)) = m.any fun e => decide (e.1 = k)
  | _, _, .nil => rfl
  | _, _, .cons (k := k0) (l := l) (m := m) r t => by
    rw [List.any_cons, List.any_cons, t.any inj k]
    congr 1
    exact decide_eq_decide.mpr ⟨fun z => inj _ _ z, fun z => congrArg f z⟩
theorem KvR.app {κ κ' : Type} {f : κ' → κ} {k : κ'} {v : V} {w : DV} (rv : Rep K Hb ρ v w) : ∀ {l : List (κ × V)} {m : List (κ' × DV)}, KvR K Hb ρ f l m → KvR K Hb ρ f (l ++ [(f k, v)]) (m ++ [(k, w)])
  | _, _, .nil => .cons rv .nil
  | _, _, .cons r t => .cons r (t.app rv)
theorem KvR.repl {κ κ' : Type} [DecidableEq κ] [DecidableEq κ'] {f : κ' → κ} (inj : ∀ a b, f a = f b → a = b) {k : κ'} {v : V} {w : DV} (rv : Rep K Hb ρ v w) : ∀ {l : List (κ × V)} {m : List (κ' × DV)}, KvR K Hb ρ f l m →
    KvR K Hb ρ f (l.map fun e => if e.1 = f k then (e.1, v) else e) (m.map fun e => if e.1 = k then (e.1, w) else e)
  | _, _, .nil => .nil
  | _, _, .cons (k := k0) (l := l) (m := m) r t => by
    rw [List.map_cons, List.map_cons]
    by_cases e : k0 = k
    · subst e
      rw [if_pos rfl, if_pos rfl]
      exact .cons rv (t.repl inj rv)
    · rw [if_neg (fun z => e (inj _ _ z)), if_neg e]
      exact .cons r (t.repl inj rv)
theorem KvR.put {κ κ' : Type} [DecidableEq κ] [DecidableEq κ'] {f : κ' → κ} (inj : ∀ a b, f a = f b → a = b) {k : κ'} {v : V} {w : DV} (rv : Rep K Hb ρ v w) {l : List (κ × V)} {m : List (κ' × DV)} (r : KvR K Hb ρ f l m) :
    KvR K Hb ρ f (putK l (f k) v) (putD m k w) := by
  unfold putK putD
  rw [r.any inj k]
  by_cases h : (m.any fun e => decide (e.1 = k)) = true
  · rw [if_pos h, if_pos h]; exact r.repl inj rv
  · rw [if_neg h, if_neg h]; exact r.app rv
theorem tupI_at {Fr H : Hp} {h : DH} (R : Rel K Hb ρ Fr h H) {x : V} {w : DV} {k : List Int} (r : RepT K Hb ρ Fr x w) (e : tupI w = some k) : ∃ b, x = .ref b ∧ H b = some (.tup ((kT k).map kV)) := by
  cases w with
  | tup ws =>
    cases r with
    | per r =>
      cases r with
      | tup hq rr =>
        rename_i a xs
        refine ⟨a, rfl, ?_⟩
        rw [kT_kV, ← allI_rep rr e]
        exact R.sub _ _ hq
  | _ => cases e
theorem dget_of {Fr H : Hp} {h : DH} (R : Rel K Hb ρ Fr h H) {a : Addr} {u : HO} {m : DM} {x : V} {w : DV} {k : DKy} (hu : H a = some u) (d : DctR K Hb ρ u m) (r : RepT K Hb ρ Fr x w) (e : keyD m w = some k) :
    (DGet H a x none ∧ lookD m k = none) ∨ ∃ v z, DGet H a x (some v) ∧ lookD m k = some z ∧ Rep K Hb ρ v z := by
  cases d with
  | I d =>
    cases w with
    | int i =>
      cases e
      cases int_of r
      have g := DGet.k (k := kI i) hu
      rcases d.val (fun _ _ => kI_inj) i with ⟨h1, h2⟩ | ⟨v, z, h1, h2, h3⟩
      · rw [h1] at g; exact .inl ⟨g, h2⟩
      · rw [h1] at g; exact .inr ⟨v, z, g, h2, h3⟩
    | _ => cases e
  | T d =>
    obtain ⟨ks, e1, e2⟩ := Option.map_eq_some_iff.mp e
    subst e2
    obtain ⟨b, rfl, hb⟩ := tupI_at R r e1
    have g := DGet.t (k := kT ks) hu hb
    rcases d.val (fun _ _ => kT_inj) ks with ⟨h1, h2⟩ | ⟨v, z, h1, h2, h3⟩
    · rw [h1] at g; exact .inl ⟨g, h2⟩
    · rw [h1] at g; exact .inr ⟨v, z, g, h2, h3⟩
theorem dput_of {Fr H : Hp} {h : DH} (R : Rel K Hb ρ Fr h H) {a : Addr} {u : HO} {m m' : DM} {x v : V} {w y : DV} {k : DKy} (hu : H a = some u) (d : DctR K Hb ρ u m) (r : RepT K Hb ρ Fr x w) (e : keyD m w = some k) (rv : Rep K Hb ρ v y) (es : storeD m k y = some m') :
    ∃ u', DPut H a x v (upd H a u') ∧ DctR K Hb ρ u' m' ∧ ∀ xs, u' ≠ .tup xs := by
  cases d with
  | I d =>
    cases w with
    | int i =>
      cases e
      cases int_of r
      rename_i l kvs
      have es : (if kvs.length < cap then some (DM.I (putD kvs i y)) else none) = some m' := es
      by_cases hc : kvs.length < cap
      · rw [if_pos hc] at es
        cases es
        exact ⟨_, DPut.k (k := kI i) hu (by rw [d.length]; exact cap_lt hc), .I (d.put (fun _ _ => kI_inj) rv), fun xs z => nomatch z⟩
      · rw [if_neg hc] at es; cases es
    | _ => cases e
  | T d =>
    obtain ⟨ks, e1, e2⟩ := Option.map_eq_some_iff.mp e
    subst e2
    obtain ⟨b, rfl, hb⟩ := tupI_at R r e1
    rename_i l kvs
    have es : (if kvs.length < cap then some (DM.T (putD kvs ks y)) else none) = some m' := es
    by_cases hc : kvs.length < cap
    · rw [if_pos hc] at es
      cases es
      exact ⟨_, DPut.t (k := kT ks) hu hb (by rw [d.length]; exact cap_lt hc), .T (d.put (fun _ _ => kT_inj) rv), fun xs z => nomatch z⟩
    · rw [if_neg hc] at es; cases es
theorem slot_dct {F0 Fr : Hp} {σ : DSt} {s : L2.St} (x : Slots K Hb ρ F0 Fr σ s) {i : Nat} {m : DM} (e : getM σ i = some m) : σ[i]? = some (.dct m) ∧ ∃ a u, s[i]? = some (some (.ref a)) ∧ Fr a = some u ∧ F0 a = none ∧ DctR K Hb ρ u m := by
  unfold getM at e
  cases eq : σ[i]? with
  | none => rw [eq] at e; cases e
  | some q =>
    rw [eq] at e
    have y := x.at_ i q eq
    cases q with
    | dct m' => cases e; exact ⟨rfl, y⟩
    | _ => cases e
theorem slots_dct {F0 Fr : Hp} {σ : DSt} {s : L2.St} {i : Nat} {p : Addr} {u : HO} {m : DM} (x : Slots K Hb ρ F0 Fr σ s) (f : Fr p = some u) (n0 : F0 p = none) (d : DctR K Hb ρ u m) : Slots K Hb ρ F0 Fr (σ.set i (.dct m)) (s.set i (some (.ref p))) := by
  have ne : ∀ {j : Nat} {ws : List DV}, (σ.set i (SV.dct m))[j]? = some (SV.own ws) → i ≠ j := fun {j ws} e z => by
    subst z
    by_cases hl : i < σ.length
    · rw [List.getElem?_set_self hl] at e; cases e
    · rw [List.getElem?_eq_none (by rw [List.length_set]; omega)] at e; cases e
  refine ⟨x.fr, fun j q e => ?_, by rw [List.length_set, List.length_set]; exact x.len, fun j k a ws zs e1 e2 e3 e4 => ?_⟩
  · by_cases hij : i = j
    · subst hij
      by_cases hl : i < σ.length
      · rw [List.getElem?_set_self hl] at e
        cases e
        exact ⟨p, u, List.getElem?_set_self (by rw [← x.len]; exact hl), f, n0, d⟩
      · rw [List.getElem?_eq_none (by rw [List.length_set]; omega)] at e; cases e
    · rw [List.getElem?_set_ne hij] at e
      have y := x.at_ j q e
      rw [List.getElem?_set_ne hij]
      exact y
  · have h1 := ne e1
    have h2 := ne e2
    rw [List.getElem?_set_ne h1] at e1 e3
    rw [List.getElem?_set_ne h2] at e2 e4
    exact x.sep j k a ws zs e1 e2 e3 e4
theorem dct_write {F0 Fr H : Hp} {h : DH} {σ : DSt} {s : L2.St} {i : Nat} {a : Addr} {u u' : HO} {m m' : DM} (R : Rel K Hb ρ Fr h H) (x : Slots K Hb ρ F0 Fr σ s) (e : σ[i]? = some (.dct m)) (es : s[i]? = some (some (.ref a))) (f : Fr a = some u) (n0 : F0 a = none) (d : DctR K Hb ρ u m)
    (od : onlyD i σ = true) (d' : DctR K Hb ρ u' m') (nt : ∀ xs, u' ≠ .tup xs) : Rel K Hb ρ (upd Fr a u') h (upd H a u') ∧ Slots K Hb ρ F0 (upd Fr a u') (σ.set i (.dct m')) s := by
  have hi : i < σ.length := (List.getElem?_eq_some_iff.mp e).1
  have ne : ∀ {j : Nat} {ws : List DV}, (σ.set i (SV.dct m'))[j]? = some (SV.own ws) → i ≠ j := fun {j ws} e z => by
    subst z
    rw [List.getElem?_set_self hi] at e; cases e
  refine ⟨R.write f u' nt, fun b o q => ?_, fun j q ej => ?_, by rw [List.length_set]; exact x.len, fun j k b ws zs e1 e2 e3 e4 => ?_⟩
  · rw [upd_ne (fun z => by rw [z, n0] at q; cases q)]; exact x.fr b o q
  · by_cases hij : i = j
    · subst hij
      rw [List.getElem?_set_self hi] at ej
      cases ej
      exact ⟨a, u', es, upd_same, n0, d'⟩
    · rw [List.getElem?_set_ne hij] at ej
      have y := x.at_ j q ej
      cases q with
      | un => trivial
      | val w => exact y
      | own us =>
        obtain ⟨b, zs', e1, f1, n1, r1⟩ := y
        have hb : b ≠ a := fun z => by
          subst z
          rw [f1] at f
          exact d.no_lst (Option.some.inj f).symm
        exact ⟨b, zs', e1, by rw [upd_ne hb]; exact f1, n1, r1⟩
      | fdt m2 => exact y
      | fdx D m2 => exact y
      | dx D m2 => exact absurd (onlyD_dx od ej).symm hij
      | dct m2 => exact absurd (onlyD_at od ej).symm hij
  · have h1 := ne e1
    have h2 := ne e2
    rw [List.getElem?_set_ne h1] at e1
    rw [List.getElem?_set_ne h2] at e2
    exact x.sep j k b ws zs e1 e2 e3 e4
end
section
variable {X : Cx} {E : L2.St → XK} {e a b c o : Expr} {pos : Pos} {dk dv : DE}
theorem tD_getM {K : PySem.W.Frag} {mg : Str → Option Value} {E : L2.St → XK} {i : Nat} {f : DM → DV → Option DV} {s : L2.St} {H : Hp} {Q : VK} {R0 : V → V → Hp → VK → Prop}
    (k : tD K mg E (fun σ h => (dk σ h).bind fun w h1 => ofO ((getM σ i).bind fun m => f m w) h1) s H Q)
    (q : ∀ (Hb : Hp) (ρ : List Addr) (Fr H : Hp) (h : DH) (a : Addr) (u : HO) (m : DM) (y : V) (w z : DV), Rel K Hb ρ Fr h H → H a = some u → DctR K Hb ρ u m → RepT K Hb ρ Fr y w → f m w = some z → Pst K Hb ρ Fr Q z h → R0 (.ref a) y H Q) :
    tD K mg E dk s H fun y H1 => tVar i s H1 fun x H2 => R0 x y H2 Q := by
  obtain ⟨Hb, ρ, F0, Fr, σ, h, R, x, k⟩ := k
  refine ⟨Hb, ρ, F0, Fr, σ, h, R, x, (Rz.bind k).imp (fun w h1 k => ?_) fun _ _ z => z⟩
  obtain ⟨z, ez, k⟩ := Rz.ofO k
  obtain ⟨m, em, ez⟩ := Option.bind_eq_some_iff.mp ez
  intro Hb1 ρ1 H1 y s1 p1 R1 r1
  obtain ⟨_, a, u, es, fu, _, d⟩ := slot_dct (x.mono s1 p1) em
  exact ⟨.ref a, es, q Hb1 ρ1 Fr H1 h1 a u m y w z R1 (R1.fr _ _ fu) d r1 ez (Pst.back s1 p1 _ _ k)⟩
theorem pc_inD (hu : X.A.units + 1 < cLine) {i : Nat} (hk : SE X E e dk) (hv : PE X o (tVar i)) : PC X .In e o (tD X.K X.mg E (dInD i dk)) := by
  have h := pc_din hu hk hv
  exact ⟨fun pins s σ H Q I q => h.run pins s σ H Q I (tD_getM (R0 := fun x y H2 Q => ∃ a o, x = .ref a ∧ DGet H2 a y o ∧ Q (.bl o.isSome) H2) q fun Hb ρ Fr H h a u m y w z R hu d r ez k => by
    obtain ⟨ky, ek, ez⟩ := Option.map_eq_some_iff.mp ez
    subst ez
    rcases dget_of R hu d r ek with ⟨g, l⟩ | ⟨v, z, g, l, rz⟩
    · refine ⟨a, none, rfl, g, ?_⟩
      rw [l] at k
      exact Pst.same R k (.per (.bl _))
    · refine ⟨a, some v, rfl, g, ?_⟩
      rw [l] at k
      exact Pst.same R k (.per (.bl _)))⟩
theorem pc_notinD (hu : X.A.units + 1 < cLine) {i : Nat} (hk : SE X E e dk) (hv : PE X o (tVar i)) : PC X .NotIn e o (tD X.K X.mg E (dNotInD i dk)) := by
  have h := pc_dnotin hu hk hv
  exact ⟨fun pins s σ H Q I q => h.run pins s σ H Q I (tD_getM (R0 := fun x y H2 Q => ∃ a o, x = .ref a ∧ DGet H2 a y o ∧ Q (.bl (!o.isSome)) H2) q fun Hb ρ Fr H h a u m y w z R hu d r ez k => by
    obtain ⟨ky, ek, ez⟩ := Option.map_eq_some_iff.mp ez
    subst ez
    rcases dget_of R hu d r ek with ⟨g, l⟩ | ⟨v, z, g, l, rz⟩
    · refine ⟨a, none, rfl, g, ?_⟩
      rw [l] at k
      exact Pst.same R k (.per (.bl _))
    · refine ⟨a, some v, rfl, g, ?_⟩
      rw [l] at k
      exact Pst.same R k (.per (.bl _)))⟩
theorem se_inD {k i : Nat} (hr : Room k X.A) (hk : SE X E e dk) (hv : PE X o (tVar i)) (h1 : behindInMarks .In o = false := by rfl) : SE X E (.Compare e [.In] [o] pos) (dInD i dk) := pe_cmp (pc_inD (by have := hr.un; omega) hk hv) h1
theorem se_notinD {k i : Nat} (hr : Room k X.A) (hk : SE X E e dk) (hv : PE X o (tVar i)) (h1 : behindInMarks .NotIn o = false := by rfl) : SE X E (.Compare e [.NotIn] [o] pos) (dNotInD i dk) := pe_cmp (pc_notinD (by have := hr.un; omega) hk hv) h1
theorem st_inD {k i : Nat} (hr : Room k X.A) (hk : SE X E e dk) (hv : PE X o (tVar i)) (h1 : behindInMarks .In o = false := by rfl) : ST X E (.Compare e [.In] [o] pos) (dInD i dk) := (pt_cmp (pc_inD (by have := hr.un; omega) hk hv) h1).weak fun s H Q q => tT_run q
theorem st_notinD {k i : Nat} (hr : Room k X.A) (hk : SE X E e dk) (hv : PE X o (tVar i)) (h1 : behindInMarks .NotIn o = false := by rfl) : ST X E (.Compare e [.NotIn] [o] pos) (dNotInD i dk) := (pt_cmp (pc_notinD (by have := hr.un; omega) hk hv) h1).weak fun s H Q q => tT_run q
end
section
variable {X : Cx} {E : XK} {e o k v : Expr} {pos pos' p2 : Pos} {dk dv : DE} {x : Str}
theorem ss_putD {n i : Nat} (hr : Room n X.A) (hv : SE X (cE E) e dv) (ho : PE X o (tVar i)) (hk : SE X (cE E) k dk) (hs : swapsWith e (some (.Subscript o k pos')) pos.line X.env = pure false := by rfl) :
    SS X E (.Assign [.Subscript o k pos'] e pos) (dPutD i dv dk) := (ps_dput (by have := hr.un; omega) ho hk hv hs).weak fun D s H ⟨Hb, ρ, F0, Fr, σ, h, R, x, z⟩ => by
  refine ⟨Hb, ρ, F0, Fr, σ, h, R, x, (Rz.bind z).imp (fun y h1 z => ?_) (Pex.lift x.fr)⟩
  obtain ⟨hy, z⟩ := Rz.chk z
  obtain ⟨od, z⟩ := Rz.chk z
  obtain ⟨m, em, z⟩ := Rz.ofO (Rz.bind z)
  intro Hb1 ρ1 H1 vv s1 p1 R1 r1
  have x1 := x.mono s1 p1
  obtain ⟨eσ, a, u, es, fu, n0, d⟩ := slot_dct x1 em
  refine ⟨.ref a, es, Hb1, ρ1, F0, Fr, σ, h1, R1, x1, (Rz.bind z).imp (fun w h2 z => ?_) fun c h q => Pex.lift x.fr c h (Pex.back s1 p1 c h q)⟩
  obtain ⟨m', e, kk⟩ := Rz.ofO (Rz.bind z)
  obtain ⟨ky, e2, e3⟩ := Option.bind_eq_some_iff.mp e
  intro Hb2 ρ2 H2 kv s2 p2 R2 r2
  have d2 := d.mono s2 p2
  have x2 := x1.mono s2 p2
  obtain ⟨u', g, d', nt⟩ := dput_of R2 (R2.fr _ _ fu) d2 r2 e2 ((r1.held hy).mono s2 p2) e3
  obtain ⟨R3, x3⟩ := dct_write R2 x2 eσ es fu n0 d2 od d' nt
  exact ⟨a, _, rfl, g, kk Hb2 ρ2 _ _ s (s1.trans s2) (p1.trans p2) R3 x3⟩
end
end DL
namespace DL
open PySem PySem.Spec PyProof.Rows L2
section
variable {X : Cx} {E : XK} {e o k v : Expr} {pos pos' p2 : Pos} {dk dv : DE} {x : Str}
theorem ss_newD1 {i : Nat} (hs : PS X (.Assign [.Name x pos'] (.Dict [some k] [v] p2) pos) (tAsg (tDisp1 (tD X.K X.mg (cE E) dk) (tD X.K X.mg (cE E) dv)) (gName i))) : SS X E (.Assign [.Name x pos'] (.Dict [some k] [v] p2) pos) (dNewD1 i dk dv) :=
  hs.weak fun D s H ⟨Hb, ρ, F0, Fr, σ, h, R, x, z⟩ => by
  intro p hp
  have hF := R.fr_fresh hp
  have x0 : Slots X.K Hb ρ F0 (upd Fr p (.dT [])) σ s := slots_frame (same_lend hF) x
  refine ⟨Hb, ρ, F0, upd Fr p (.dT []), σ, h, R.lend hp (.dT []), x0, (Rz.bind z).imp (fun w h1 z => ?_) (Pex.lift x0.fr)⟩
  intro Hb1 ρ1 H1 kv s1 p1 R1 r1
  refine ⟨Hb1, ρ1, F0, upd Fr p (.dT []), σ, h1, R1, x0.mono s1 p1, (Rz.bind z).imp (fun y h2 z => ?_) fun c h q => Pex.lift x0.fr c h (Pex.back s1 p1 c h q)⟩
  obtain ⟨hy, z⟩ := Rz.chk z
  obtain ⟨ks, ek, kk⟩ := Rz.ofO (Rz.bind z)
  intro Hb2 ρ2 H2 vv s2 p2 R2 r2
  obtain ⟨b, eb, hb⟩ := tupI_at R2 (r1.mono s2 p2 (Same.refl _)) ek
  refine ⟨R2.fr _ _ upd_same, kT ks, b, eb, hb, ?_⟩
  have R3 := R2.write (p := p) upd_same (.dT [(kT ks, vv)])
  rw [upd_upd] at R3
  have x3 : Slots X.K Hb2 ρ2 F0 (upd Fr p (.dT [(kT ks, vv)])) σ s := slots_frame (same_lend hF) ((x.mono s1 p1).mono s2 p2)
  exact kk Hb2 ρ2 _ _ _ (s1.trans s2) (p1.trans p2) R3 (slots_dct x3 upd_same (Same.free x.fr hF) (.T (.cons (r2.held hy) .nil)))
theorem ss_newDT {i : Nat} (hs : PS X (.Assign [.Name x pos'] (.Dict [] [] p2) pos) (tAsg tDNewT (gName i))) : SS X E (.Assign [.Name x pos'] (.Dict [] [] p2) pos) (dNewDT i) := hs.weak fun D s H ⟨Hb, ρ, F0, Fr, σ, h, R, x, z⟩ => by
  intro p hp
  have hF := R.fr_fresh hp
  exact z Hb ρ _ _ _ (Same.refl _) (List.prefix_refl _) (R.lend hp (.dT [])) (slots_dct (slots_frame (same_lend hF) x) upd_same (Same.free x.fr hF) (.T .nil))
theorem ss_newDI {i : Nat} (hs : PS X (.Assign [.Name x pos'] (.Dict [] [] p2) pos) (tAsg tDNewK (gName i))) : SS X E (.Assign [.Name x pos'] (.Dict [] [] p2) pos) (dNewDI i) := hs.weak fun D s H ⟨Hb, ρ, F0, Fr, σ, h, R, x, z⟩ => by
  intro p hp
  have hF := R.fr_fresh hp
  exact z Hb ρ _ _ _ (Same.refl _) (List.prefix_refl _) (R.lend hp (.dK [])) (slots_dct (slots_frame (same_lend hF) x) upd_same (Same.free x.fr hF) (.I .nil))
end
def rSortedDT : List V → Hp → VK → Prop := fun vs H Q => ∃ (a : Addr) (l : List (List Key × V)) (ks : List (List Int)), vs = [V.ref a] ∧ H a = some (.dT l) ∧ l.map (·.1) = ks.map kT ∧ (∀ k ∈ ks, k ≠ []) ∧
  ∀ bs : List (Addr × List Int), bs.map (·.2) = ks → (∀ b ∈ bs, H b.1 = some (.tup (b.2.map V.int))) →
    ∀ p, H p = none → Q (.ref p) (upd H p (.lst ((bs.mergeSort (PySem.W.dataLe false fun b => .tuple (b.2.map .int))).map fun b => V.ref b.1)))
theorem data_ints {K : PySem.W.Frag} {H : Hp} : ∀ ks : List Int, DpAll K H (ks.map V.int) (ks.map PyData.int)
  | [] => .nil
  | k :: ks => .cons (.int k) (data_ints ks)
theorem vals_eq {us : List Value} {bs : List (Addr × List Int)} (h : us = bs.map fun b => Value.ref b.1) : Vals (bs.map fun b => V.ref b.1) us := by
  subst h
  induction bs with
  | nil => exact .nil
  | cons b bs ih => exact .cons rfl ih
theorem each_refs : ∀ bs : List (Addr × List Int), PySem.W.EachIs (fun v (b : Addr × List Int) => v = Value.ref b.1) (bs.map fun b => Value.ref b.1) bs
  | [] => .nil
  | b :: bs => .cons rfl (each_refs bs)
theorem readsAll_ints {h : Heap} : ∀ {ks : List Int} {vs : List Value} {as : List Addr}, ReadsAll h vs (ks.map PyData.int) as → as = []
  | [], _, _, r => by cases r; rfl
  | k :: ks, _, _, r => by
    cases r with
    | cons r1 rr =>
      cases r1
      rw [readsAll_ints rr]; rfl
theorem reads_ints {h : Heap} {ks : List Int} {v : Value} {as : List Addr} (r : Reads h v (.tuple (ks.map PyData.int)) as) : as = [] := by
  cases r with
  | tuple _ _ _ r => exact readsAll_ints r
theorem cr_sortedDT {X : Cx} (hc : X.calm = true) (hu : X.A.units + 64 < cLine) : CallR X (.builtin "sorted") rSortedDT := by
  intro pins s σ H vs us Q I r h
  obtain ⟨a, l, ks, rfl, ha, hk, hne, q⟩ := h
  rw [Vals.ref1 r]
  obtain ⟨z, hd, xs, rel, o, es, ep, ho, hx, hdat, hes, _, _⟩ := dt_of I.hok ha
  -- the keys' tuples
  have key : ∀ {l : List (List Key × V)} {xs : List (List Key × Addr × Value)} {ks : List (List Int)}, KT H l xs → l.map (·.1) = ks.map kT → ∃ bs : List (Addr × List Int), bs.map (·.2) = ks ∧ (∀ b ∈ bs, H b.1 = some (.tup (b.2.map V.int))) ∧ xs.map (fun x => x.2.1) = bs.map (·.1) := by
    intro l xs ks q
    induction q generalizing ks with
    | nil =>
      intro e
      cases ks with
      | nil => exact ⟨[], rfl, fun b hb => (nomatch hb), rfl⟩
      | cons _ _ => cases e
    | @cons p q ps qs hq t ih =>
      intro e
      cases ks with
      | nil => cases e
      | cons k ks =>
        rw [List.map_cons, List.map_cons] at e
        injection e with e1 e2
        obtain ⟨bs, b1, b2, b3⟩ := ih e2
        refine ⟨(q.2.1, k) :: bs, by rw [List.map_cons, b1], fun b hb => ?_, by rw [List.map_cons, List.map_cons, b3]⟩
        rcases List.mem_cons.mp hb with rfl | hb
        · show H q.2.1 = some (.tup (k.map V.int))
          rw [hq.2.1, e1, kT_kV]
        · exact b2 b hb
  obtain ⟨bs, b1, b2, b3⟩ := key rel hk
  have hh : X.A.handled = none := I.ok.hd hc
  have lx : es.size = xs.length := size_of_entries hes
  have lb : bs.length = xs.length := by have := congrArg List.length b3; rw [List.length_map, List.length_map] at this; exact this.symm
  have hz : es.size ≤ sizeLine := by rw [lx, ← Paired.length rel]; exact z
  refine Calls.call_function_entry kind_sorted plain_sorted entry_sorted (args_sorted1 _) ?_
  unfold Builtin.«sorted»
  refine wpAny_bind (m := checkCount "sorted" 1 1 _) (wpAny_pure ?_)
  refine wpAny_bind (PySem.W.kdu_collect (A := X.A.in1) (KdlSrc.rawDict (es := es) (ep := ep) hd) hh ⟨o, ho, hx, hdat⟩ hz fun h' tk acc hk' hacc => ?_)
  -- what was drawn
  have hacc2 : acc.toList = bs.map fun b => Value.ref b.1 := by
    refine List.ext_getElem? fun j => ?_
    by_cases hj : j < es.size
    · have hja : j < acc.toList.length := by rw [Array.length_toList, hacc.1]; exact hj
      have e1 : acc.toList[j]? = some acc.toList[j] := List.getElem?_eq_getElem hja
      rw [e1]
      obtain ⟨hi, ev⟩ := hacc.2 j acc.toList[j] (by rw [← Array.getElem?_toList]; exact e1)
      rw [ev]
      have hxj : j < xs.length := by rw [← lx]; exact hj
      have e2 : es[j]? = (xs[j]?).map (entryOfKey (tupleKind (mixKind X.prog X.w))) := entry_at hes j
      rw [Array.getElem?_eq_getElem hi, List.getElem?_eq_getElem hxj] at e2
      have e3 : es[j] = entryOfKey (tupleKind (mixKind X.prog X.w)) xs[j] := Option.some.inj e2
      have e4 : bs[j]?.map (·.1) = some xs[j].2.1 := by
        have := congrArg (fun z : List Addr => z[j]?) b3
        rw [List.getElem?_map, List.getElem?_map, List.getElem?_eq_getElem hxj] at this
        exact this.symm
      have hbj : j < bs.length := by omega
      rw [List.getElem?_eq_getElem hbj] at e4
      rw [List.getElem?_map, List.getElem?_eq_getElem hbj, e3]
      have e5 : bs[j].1 = xs[j].2.1 := Option.some.inj e4
      show some (Value.ref xs[j].2.1) = some (Value.ref bs[j].1)
      rw [e5]
    · rw [List.getElem?_eq_none (by rw [Array.length_toList, hacc.1]; omega), List.getElem?_eq_none (by rw [List.length_map]; omega)]
  refine wpAny_bind (wpAny_newList ?_ (by rw [Array.length_toList, hacc.1]; exact hz))
  have hoL : (h'.push (seqObj "list" acc.toList.toArray 0)).get? h'.objs.size = some (seqObj "list" acc.toList.toArray 0) := Heap.get?_push_size _ rfl
  have I1 : Inv X pins σ H { s with heap := h'.push (seqObj "list" acc.toList.toArray 0), toks := tk } := I.kept (t' := tk) fun b u e => Heap.get?_push_of_some _ (hk' b u e)
  have old : ∀ b u, s.heap.get? b = some u → b ≠ h'.objs.size := fun b u e => Nat.ne_of_lt (Heap.lt_size (hk' b u e))
  have gone : s.heap.get? h'.objs.size = none := by
    cases e : s.heap.get? h'.objs.size with
    | none => rfl
    | some u => exact absurd rfl (old _ u e)
  have eb : PySem.W.EachIs (fun v (b : Addr × List Int) => v = Value.ref b.1) acc.toList bs := by
    rw [hacc2]; exact each_refs bs
  have er : PySem.W.EachIs (fun v (b : Addr × List Int) => ∃ as, Reads (h'.push (seqObj "list" acc.toList.toArray 0)) v (.tuple (b.2.map .int)) as ∧ h'.objs.size ∉ as) acc.toList bs := each_in eb fun v b hb ev => by
    subst ev
    obtain ⟨as, ra⟩ := Dp.reads I (.tuple (b.2.map .int)) (.ref b.1) (.ref b.1) (.tup (K := X.K) (SqT.of (b2 b hb)) (data_ints b.2)) rfl
    have e0 := reads_ints ra
    subst e0
    exact ⟨[], PyProof.Rows.Reads.keeps (fun b u e => Heap.get?_push_of_some _ (hk' b u e)) ra, List.not_mem_nil⟩
  have al : PySem.W.AllAlike (bs.map fun b : Addr × List Int => PyData.tuple (b.2.map .int)) := PySem.W.AllAlike.of fun b b' => PySem.W.alike_ints b.2 b'.2
  have so : PySem.W.Sortable (bs.map fun b : Addr × List Int => PyData.tuple (b.2.map .int)) := .inl fun d hd => by
    obtain ⟨b, hb, rfl⟩ := List.mem_map.mp hd
    have hn : b.2 ≠ [] := hne _ (by rw [← b1]; exact List.mem_map_of_mem hb)
    cases hb2 : b.2 with
    | nil => exact absurd hb2 hn
    | cons x r => exact ⟨.int x, r.map .int, rfl⟩
  have hL : bs.length ≤ sizeLine := by omega
  refine wpAny_bind (wpAny_holding (PySem.W.list_sort_data (A := X.A.in1) (s := { s with heap := h'.push (seqObj "list" acc.toList.toArray 0), toks := tk }) (n := 0) hoL eb er al so hL (fun b hb => ?_) fun out ho' eo => ?_))
  · have e : (PyData.tuple (b.2.map .int)).depth = PyData.depthAll (b.2.map .int) + 1 := rfl
    rw [e, PySem.W.depth_ints]
    show X.A.units + 1 + 1 + (0 + 1) < cLine
    omega
  · obtain ⟨c, hcF⟩ := sortedHeap_at (vs := acc.toList) (out := out.toArray) hoL
    have I2 : Inv X pins σ (upd H h'.objs.size (.lst ((bs.mergeSort (PySem.W.dataLe false fun b => .tuple (b.2.map .int))).map fun b => V.ref b.1))) { s with heap := sortedHeap (h'.push (seqObj "list" acc.toList.toArray 0)) h'.objs.size acc.toList out.toArray, toks := tk } := by
      refine I.laidN (t' := tk) (fun b u e => ?_) gone (HOk.gone I.hok gone) ⟨?_, out, c, ?_, hcF⟩
      · rw [sortedHeap_old (old b u e) (by rw [size_push']; exact Nat.lt_succ_of_lt (Heap.lt_size (hk' b u e)))]
        exact Heap.get?_push_of_some _ (hk' b u e)
      · rw [List.length_map, List.length_mergeSort]; exact hL
      · exact vals_each (f := fun b : Addr × List Int => V.ref b.1) (eo.mono fun v b ev => ev)
    exact wpAny_pure ⟨_, rfl, .ref h'.objs.size, _, I2, rfl, q bs b1 b2 _ (HOk.gone I.hok gone)⟩
end DL
namespace DL
open PySem PySem.Spec PyProof.Rows L2
abbrev dT (k : List Int) : PyData := .tuple (k.map .int)
abbrev rT (k : List Int) : DV := .tup (k.map .int)
def sortT (ks : List (List Int)) : List (List Int) := ks.mergeSort (PySem.W.dataLe false dT)
def dSortD (i : Nat) : DE := fun σ h => ofO ((getM σ i).bind fun m => match m with
  | .T kvs => if (kvs.all fun e => !e.1.isEmpty) = true then some (.lst ((sortT (kvs.map (·.1))).map rT)) else none
  | _ => none) h
def dLenD (i : Nat) : DE := fun σ h => ofO ((getM σ i).map fun m => .int (sizeD m : Nat)) h
section
variable {K : PySem.W.Frag} {Hb : Hp} {ρ : List Addr} {Fr H : Hp} {h : DH}
theorem hold_tup (R : Rel K Hb ρ Fr h H) {a : Addr} {xs : List V} (e : H a = some (.tup xs)) : ∃ Hb', Same Hb Hb' ∧ Rel K Hb' ρ Fr h H ∧ Hb' a = some (.tup xs) := by
  cases hb : Hb a with
  | some o =>
    have := R.sub _ _ hb
    rw [e] at this
    cases this
    exact ⟨Hb, Same.refl _, R, hb⟩
  | none =>
    have s1 : Same Hb (upd Hb a (.tup xs)) := fun b o q => by rw [upd_ne (ne_of_none q hb)]; exact q
    have nF : ∀ b o, Fr b = some o → b ≠ a := fun b o q z => by
      subst z
      have := R.fr _ _ q
      rw [e] at this
      cases this
      exact R.ft _ _ q xs rfl
    have nρ : ∀ (n : Nat) (b : Addr), ρ[n]? = some b → b ≠ a := fun n b q z => by
      subst z
      have hl : n < h.length := by rw [← R.len]; exact (List.getElem?_eq_some_iff.mp q).1
      obtain ⟨o, e2, z⟩ := (R.cell n b h[n] q (List.getElem?_eq_getElem hl)).some
      rw [e] at e2; cases e2
      exact z _ rfl
    refine ⟨_, s1, ⟨fun b o q => ?_, R.fr, fun b o q => ?_, R.len, fun n b c q1 q2 => ?_, fun n b q => ?_, R.inj, R.ft⟩, upd_same⟩
    · by_cases hba : b = a
      · subst hba; rw [upd_same] at q; cases q; exact e
      · rw [upd_ne hba] at q; exact R.sub b o q
    · rw [upd_ne (nF b o q)]; exact R.ap b o q
    · exact (R.cell n b c q1 q2).mono s1 (List.prefix_refl _)
    · obtain ⟨z1, z2⟩ := R.out n b q
      exact ⟨by rw [upd_ne (nρ n b q)]; exact z1, z2⟩
theorem hold_tups : ∀ (bs : List (Addr × List Int)) (Hb : Hp), Rel K Hb ρ Fr h H → (∀ b ∈ bs, H b.1 = some (.tup (b.2.map V.int))) → ∃ Hb', Same Hb Hb' ∧ Rel K Hb' ρ Fr h H ∧ ∀ b ∈ bs, Hb' b.1 = some (.tup (b.2.map V.int))
  | [], Hb, R, _ => ⟨Hb, Same.refl _, R, fun b hb => (nomatch hb)⟩
  | b :: bs, Hb, R, hb => by
    obtain ⟨Hb1, s1, R1, e1⟩ := hold_tup R (hb b List.mem_cons_self)
    obtain ⟨Hb2, s2, R2, e2⟩ := hold_tups bs Hb1 R1 fun c hc => hb c (List.mem_cons_of_mem _ hc)
    refine ⟨Hb2, s1.trans s2, R2, fun c hc => ?_⟩
    rcases List.mem_cons.mp hc with rfl | hc
    · exact s2 _ _ e1
    · exact e2 c hc
theorem reps_tups : ∀ {bs : List (Addr × List Int)}, (∀ b ∈ bs, Hb b.1 = some (.tup (b.2.map V.int))) → Reps K Hb ρ (bs.map fun b => V.ref b.1) (bs.map fun b => rT b.2)
  | [], _ => .nil
  | b :: bs, h => .cons (.tup (h b List.mem_cons_self) (reps_ints b.2)) (reps_tups fun c hc => h c (List.mem_cons_of_mem _ hc))
theorem kvr_keys : ∀ {l : List (List Key × V)} {kvs : List (List Int × DV)}, KvR K Hb ρ kT l kvs → l.map (·.1) = (kvs.map (·.1)).map kT
  | _, _, .nil => rfl
  | _, _, .cons _ t => congrArg (_ :: ·) (kvr_keys t)
end
section
variable {X : Cx} {E : L2.St → XK} {pos : Pos}
theorem se_sortD {n i : Nat} {x : Str} {p p2 : Pos} (hr : Room n X.A) (hc : X.calm = true) (hg : Gl X "sorted") (hm : X.mg "sorted" = none) (hv : PE X (.Name x p2) (tVar i)) : SE X E (.Call (.Name "sorted" p) [.Name x p2] [] pos) (dSortD i) :=
  (pe_callB (cr_sortedDT hc (by have := hr.un; omega)) hg hm rfl (pa_cons hv pa_nil)).weak fun s H Q ⟨Hb, ρ, F0, Fr, σ, h, R, x, k⟩ => by
    obtain ⟨w, ew, k⟩ := Rz.ofO k
    obtain ⟨m, em, ew⟩ := Option.bind_eq_some_iff.mp ew
    obtain ⟨eσ, a, u, es, fu, n0, d⟩ := slot_dct x em
    cases d with
    | I d => cases ew
    | T d =>
      rename_i l kvs
      have ew : (if (kvs.all fun e => !e.1.isEmpty) = true then some (DV.lst ((sortT (kvs.map (·.1))).map rT)) else none) = some w := ew
      by_cases hne : (kvs.all fun e => !e.1.isEmpty) = true
      · rw [if_pos hne] at ew
        cases ew
        refine ⟨.ref a, es, a, l, kvs.map (·.1), rfl, R.fr _ _ fu, kvr_keys d, fun ks hk => ?_, fun bs hb1 hb2 p hp => ?_⟩
        · obtain ⟨e, he, rfl⟩ := List.mem_map.mp hk
          have := List.all_eq_true.mp hne e he
          intro z
          rw [z] at this
          cases this
        · obtain ⟨Hb', s1, R', hb'⟩ := hold_tups bs Hb R hb2
          have e3 : (sortT (kvs.map (·.1))).map rT = (bs.mergeSort (PySem.W.dataLe false fun b => dT b.2)).map fun b => rT b.2 := by
            unfold sortT
            rw [← hb1, ← PySem.W.sort_maps (r := PySem.W.dataLe false fun b : Addr × List Int => dT b.2) (fun b : Addr × List Int => b.2) fun _ _ _ _ => rfl, List.map_map]
            rfl
          rw [e3] at k
          exact Pst.lst R' (Pst.back s1 (List.prefix_refl _) _ _ k) (reps_tups fun b hb => hb' b ((List.mergeSort_perm _ _).mem_iff.mp hb)) p hp
      · rw [if_neg hne] at ew; cases ew
end
end DL
namespace DL
open PySem PySem.Spec PyProof.Rows L2
def fset (w : World) : Obj := { cls := .type "set", dict := none, data := .set #[] 0 (.fresh 0 0 (!w.params.followText "set-order")) }
theorem fset_r {w : World} {h : Heap} {a : Addr} {xs : List Int} (ho : h.get? a = some (fset w)) : SetR w h a (fun j => decide (j ∈ xs.take 0)) 0 := setR_new_at ho
section
variable {P : Program} {w : World} {A : Around} {E : Value → Shared → Prop} {s : Shared}
set_option maxHeartbeats 3200000 in
theorem set_of_ints {l : Addr} {arr : Array Value} (xs : List Int) {Q : Value → Shared → Prop} (noExc : A.handled = none) (isl : s.heap.IsList l arr) (iv : IntsAre arr.toList xs) (few : xs.length + 1 < scanBound)
    (q : ∀ (hp : Heap) (tks c : Nat), SetR w hp s.heap.objs.size (fun j => decide (j ∈ xs)) c → c ≤ xs.length → (∀ b o, s.heap.get? b = some o → hp.get? b = some o) → Q (.ref s.heap.objs.size) { s with heap := hp, toks := tks }) :
    wpAny (model P w) A (call (.type "set") [.ref l]) Q E s := by
  have size : arr.size = xs.length := by have z := IntsAre.length iv; rw [Array.length_toList] at z; exact z
  obtain ⟨mc, mtl, mro⟩ := F.called_set.mro
  have made := F.called_set.made
  have subs := F.called_set.sub
  refine wpAny_call (codeAny_of_tree (show wpAny _ _ (callAny (.type "set") _) _ _ _ from ?_))
  refine wpAny_pure ⟨Code.quiet_builtin _ (by decide +kernel), codeAny_builtin (F.entry_type_call) ?_⟩
  rw [Around.under_plain (weight_type_call_type "set" [.ref l] ([])) rfl]
  have nt := F.called_set.notType
  have cc := F.called_set.canCreate
  have tc := F.typeCall_set_1 (.ref l)
  repeat (any_goals (first | assumption | wp_step))
  refine codeAny_mono (code_set_led1 (.ref l) (E := E) (Q₁ := fun x t => x = .ref s.heap.objs.size ∧ t = { s with heap := s.heap.push (fset w) }) ⟨rfl, rfl⟩) fun r t hr => ?_
  cases r with
  | error e => exact hr
  | ok fl =>
    cases fl with
    | ret x =>
      obtain ⟨rfl, rfl⟩ := hr
      have at0 : (s.heap.push (fset w)).get? s.heap.objs.size = some (fset w) := Heap.get?_push_size _ rfl
      have ty0 : Shared.TypeIs { s with heap := s.heap.push (fset w) } (.ref s.heap.objs.size) "set" := ⟨_, at0, rfl⟩
      have ini := F.called_set.init.lookup
      have bnd := F.called_set.init.bind (.ref s.heap.objs.size)
      repeat (any_goals (first | assumption | wp_step))
      refine codeAny_mono (codeAny_call_builtin (R := wants (fun r t => r = .none ∧ ∃ hp tks c, t = { s with heap := hp, toks := tks } ∧ SetR w hp s.heap.objs.size (fun j => decide (j ∈ xs)) c ∧ c ≤ xs.length ∧ (∀ b o, s.heap.get? b = some o → hp.get? b = some o)) E)
        F.called_set.init.plain F.entry_set_init (check_set_init_1 ty0 ?_)) fun r2 t2 hr2 => ?_
      · obtain ⟨ob, eob, ecl, nb, edt⟩ := isl
        obtain ⟨c1, c2, c3, c4⟩ := ob
        simp only at ecl edt
        subst ecl edt
        have eob' : (s.heap.push (fset w)).get? l = some { cls := .type "list", dict := c2, data := .seq arr nb, slots := c4 } := Heap.get?_push_of_some _ eob
        have f1 := F.sub_list_set
        have f2 := F.sub_list_frozenset
        have f3 : (Value.type "list" == Value.type "dict") = false := by decide
        have isl' : (s.heap.push (fset w)).IsList l arr := ⟨_, eob', rfl, nb, rfl⟩
        unfold Builtin.«set.__init__» noKeywords Builtin.Frozenset.updateFrom
        generalize hPI : pyIter = PI
        wp_walk
        subst hPI
        refine wpAny_pyIter_list isl' (wpAny_bind (wpAny_runValue ?_))
        have ll : l < s.heap.objs.size := Heap.lt_size eob
        have sz : (s.heap.push (fset w)).objs.size = s.heap.objs.size + 1 := Heap.size_push ..
        have ne1 : l ≠ (s.heap.push (fset w)).objs.size := by rw [sz]; exact Nat.ne_of_lt (Nat.lt_succ_of_lt ll)
        have ne2 : s.heap.objs.size ∉ [(s.heap.push (fset w)).objs.size, l] := by
          simp only [List.mem_cons, List.not_mem_nil, or_false, not_or]
          exact ⟨(by rw [sz]; exact Nat.ne_of_lt (Nat.lt_succ_self _)), Nat.ne_of_gt ll⟩
        have vals : ∀ (i : Nat) (v : Value), arr[i]? = some v → ∃ k t, xs[i]? = some k ∧ v = .int k t := fun i v hv => by
          have hi : i < xs.length := by rw [← size]; exact (Array.getElem?_eq_some_iff.mp hv).1
          obtain ⟨t, e⟩ := IntsAre.int_at iv i v (by rw [Array.getElem?_toList]; exact hv)
          exact ⟨xs[i], t, List.getElem?_eq_getElem hi, by rw [e, List.getD_eq_getElem?_getD, List.getElem?_eq_getElem hi] <;> rfl⟩
        refine set_update_ints ((Walks.list (by simp [noExc]) _ l ne1 arr).toS) s.heap.objs.size ne2 xs size few vals (arr.size - 0) 0 _ (by omega) (Nat.zero_le _) ⟨⟨_, Heap.get?_push_size _ rfl, rfl, rfl⟩, isl'.push _⟩ ?st ?en
        case st => exact ⟨0, Nat.le_refl 0, fset_r (Heap.get?_push_of_some _ at0)⟩
        case en =>
          intro t3 c3 mv hc3 r3
          obtain ⟨hp3, g3, d3, k3, o3⟩ := t3
          have eg : g3 = s.gens := mv.gens
          have ed : d3 = s.drawn := mv.drawn
          have eo : o3 = s.os := mv.os
          subst eg ed eo
          rw [size] at hc3
          show wpAny _ _ _ _ _ _
          refine wpAny_pure (show wpAny _ _ (ret Value.none) _ _ _ from wpAny_pure ⟨rfl, hp3, k3, c3, rfl, r3, hc3, fun b o e => ?_⟩)
          have hb := Heap.lt_size e
          exact mv.heap b o (by
            simp only [List.mem_cons, List.not_mem_nil, or_false, not_or]
            exact ⟨Nat.ne_of_lt hb, (by rw [sz]; exact Nat.ne_of_lt (Nat.lt_succ_of_lt hb))⟩) (Heap.get?_push_of_some _ (Heap.get?_push_of_some _ e))
      · cases r2 with
        | error e => exact hr2
        | ok f2 =>
          cases f2 with
          | ret y =>
            obtain ⟨rfl, hp, tks, c, rfl, a1, a2, a3⟩ := hr2
            repeat (any_goals (first | assumption | wp_step))
            exact q _ _ _ a1 a2 a3
          | _ => exact hr2.elim
    | _ => exact hr.elim
end
end DL
namespace DL
open PySem PySem.Spec PyProof.Rows L2
def rSetI (K : PySem.W.Frag) (w : World) : List V → Hp → VK → Prop := fun vs H Q => ∃ (l : Addr) (xs : List Int), vs = [V.ref l] ∧ SqL K H l (xs.map V.int) ∧ xs.length ≤ 60 ∧
  ∀ (c : Nat) (p : Addr), c ≤ xs.length → H p = none → Q (.ref p) (upd H p (SetO w p (fun j => decide (j ∈ xs)) c))
theorem cr_setI {X : Cx} (hc : X.calm = true) : CallR X (.type "set") (rSetI X.K X.w) := by
  intro pins s σ H vs us Q I r h
  obtain ⟨l, xs, rfl, hs, h60, q⟩ := h
  obtain ⟨its, rv, hl, hz⟩ := I.list hs
  rw [Vals.ref1 r]
  refine set_of_ints xs (I.ok.hd hc) hl.isList (by rw [List.toList_toArray]; exact ints_of_vals rv) (by unfold scanBound; omega) fun hp tks c r hcx k => ?_
  exact ⟨.ref s.heap.objs.size, _, I.laid (t' := tks) k (Nat.le_refl _) (setO_new r), rfl, q c _ hcx (I.hok.fresh (Nat.le_refl _))⟩
def riseI (xs : List Int) : List Int := (xs.foldl (fun acc x => if x ∈ acc then acc else acc ++ [x]) []).mergeSort (fun a b => decide (a ≤ b))
def gSortSet : List DV → DH → Option DV := g1 fun w _ => (lstOf w).bind fun ws => (allI ws).bind fun xs => if xs.length ≤ 60 then some (.lst ((riseI xs).map .int)) else none
theorem dedup_mem (a : Int) : ∀ (xs acc : List Int), a ∈ xs.foldl (fun acc x => if x ∈ acc then acc else acc ++ [x]) acc ↔ a ∈ acc ∨ a ∈ xs
  | [], acc => by simp
  | x :: xs, acc => by
    rw [List.foldl_cons, dedup_mem a xs]
    by_cases h : x ∈ acc
    · rw [if_pos h, List.mem_cons]
      constructor
      · rintro (z | z)
        · exact .inl z
        · exact .inr (.inr z)
      · rintro (z | rfl | z)
        · exact .inl z
        · exact .inl h
        · exact .inr z
    · rw [if_neg h, List.mem_append, List.mem_singleton, List.mem_cons, or_assoc]
theorem dedup_nodup : ∀ (xs acc : List Int), acc.Nodup → (xs.foldl (fun acc x => if x ∈ acc then acc else acc ++ [x]) acc).Nodup
  | [], acc, h => h
  | x :: xs, acc, h => by
    rw [List.foldl_cons]
    by_cases hx : x ∈ acc
    · rw [if_pos hx]; exact dedup_nodup xs acc h
    · rw [if_neg hx]
      refine dedup_nodup xs _ (List.nodup_append.mpr ⟨h, by simp, fun a ha b hb e => ?_⟩)
      rw [List.mem_singleton] at hb
      subst hb e
      exact hx ha
theorem riseI_mem (xs : List Int) (a : Int) : a ∈ riseI xs ↔ a ∈ xs := by
  unfold riseI
  rw [(List.mergeSort_perm _ _).mem_iff, dedup_mem]
  simp
theorem riseI_asc (xs : List Int) : (riseI xs).Pairwise (· < ·) := by
  unfold riseI
  have h := List.pairwise_mergeSort (le := fun a b : Int => decide (a ≤ b)) (fun a b c h1 h2 => by simp at *; omega) (fun a b => by simp; omega) (xs.foldl (fun acc x => if x ∈ acc then acc else acc ++ [x]) [])
  have n := ((List.mergeSort_perm (xs.foldl (fun acc x => if x ∈ acc then acc else acc ++ [x]) []) (fun a b : Int => decide (a ≤ b))).nodup_iff).mpr (dedup_nodup xs [] List.nodup_nil)
  exact (List.pairwise_and_iff.mpr ⟨h, n⟩).imp fun {a b} ⟨h1, h2⟩ => by simp at h1; omega
theorem rise_unique {xs ys : List Int} (hx : xs.Pairwise (· < ·)) (hy : ys.Pairwise (· < ·)) (h : ∀ a, a ∈ xs ↔ a ∈ ys) : xs = ys :=
  List.Perm.eq_of_pairwise (le := (· < ·)) (fun a b _ _ h1 h2 => by omega) hx hy ((List.perm_ext_iff_of_nodup (hx.imp fun h => by omega) (hy.imp fun h => by omega)).mpr h)
section
variable {X : Cx} {E : L2.St → XK} {e : Expr} {pos p p2 q : Pos} {dr : DA}
theorem se_sortSet (hc : X.calm = true) (hg : Gl X "sorted") (hm : X.mg "sorted" = none) (hg2 : Gl X "set") (hm2 : X.mg "set" = none) (ha : SA X E [e] dr)
    (hs : starEach [e] X.env = (false, eval e X.env) :: starEach [] X.env := by rfl) (hpl : (backTo q (starEach [] X.env)).any (·.1) = false := by rfl) :
    SE X E (.Call (.Name "sorted" p) [.Call (.Name "set" p2) [e] [] q] [] pos) (dFn gSortSet dr) :=
  (pe_callB (cr_sortedSet hc) hg hm rfl (pa_cons (pe_callTy (cr_setI hc) hg2 hm2 rfl ha (by decide) (by decide) hs hpl) pa_nil)).weak fun s H Q ⟨Hb, ρ, F0, Fr, σ, h, R, x, k⟩ => by
    refine ⟨Hb, ρ, F0, Fr, σ, h, R, x, (Rz.bind k).imp (fun ws h1 k => ?_) fun _ _ z => z⟩
    obtain ⟨w, ew, k⟩ := Rz.ofO k
    intro Hb1 ρ1 H1 vs s1 p1 R1 r1
    cases r1 with
    | nil => cases ew
    | cons r1 rr =>
      cases rr with
      | cons _ _ => cases ew
      | nil =>
        rename_i v0 w0
        have ew : ((lstOf w0).bind fun ws => (allI ws).bind fun xs => if xs.length ≤ 60 then some (DV.lst ((riseI xs).map .int)) else none) = some w := ew
        obtain ⟨us, e1, ew⟩ := Option.bind_eq_some_iff.mp ew
        obtain ⟨xs, e2, ew⟩ := Option.bind_eq_some_iff.mp ew
        obtain ⟨a, ys, ex, hq, ry⟩ := lstR_of R1 r1 e1
        by_cases hl : xs.length ≤ 60
        · rw [if_pos hl] at ew
          cases ew
          refine ⟨a, xs, by rw [ex], by rw [← allI_rep ry e2]; exact hq, hl, fun c b hcx hb => ⟨b, _, c, rfl, upd_same, by omega, fun ns d hns hmem hlen hd => ?_⟩⟩
          have en : ns = riseI xs := rise_unique hns (riseI_asc xs) fun j => by rw [hmem, riseI_mem]; simp
          obtain ⟨s2, R2⟩ := R1.new hb (SetO X.w b (fun j => decide (j ∈ xs)) c)
          rw [en]
          exact Pst.lst R2 (Pst.back (s1.trans s2) p1 _ _ k) (reps_ints _) d hd
        · rw [if_neg hl] at ew; cases ew
end
end DL
namespace DL
open PySem PySem.Spec PyProof.Rows L2
def ItM (K : PySem.W.Frag) (a b : Addr) : It :=
  ⟨fun i H => ∃ (xs ys : List V) (x y : V), SqL K H a xs ∧ SqT K H b ys ∧ xs[i]? = some x ∧ ys[i]? = some y,
    fun i H v H' => ∃ T x y, v = .ref T ∧ H T = none ∧ H' = upd H T (.tup [x, y]) ∧ (∀ xs, SqL K H a xs → xs[i]? = some x) ∧ ∀ ys, SqT K H b ys → ys[i]? = some y,
    fun i H => ∃ xs ys : List V, SqL K H a xs ∧ SqT K H b ys ∧ (xs.length = i ∧ i ≤ ys.length ∨ ys.length = i ∧ i ≤ xs.length)⟩
structure Apt (z TI TO i1 i2 a b : Addr) : Prop where
  tz : TI ≠ z
  oz : TO ≠ z
  to : TI ≠ TO
  t1 : TI ≠ i1
  t2 : TI ≠ i2
  o1 : TO ≠ i1
  o2 : TO ≠ i2
  z1 : z ≠ i1
  z2 : z ≠ i2
  i12 : i1 ≠ i2
  za : z ≠ a
  zb : z ≠ b
  oa : TO ≠ a
  ob : TO ≠ b
  a1 : a ≠ i1
  a2 : i2 ≠ a
  b1 : i1 ≠ b
  b2 : b ≠ i2
theorem Apt.sep {z TI TO i1 i2 a b : Addr} (D : Apt z TI TO i1 i2 a b) : ZipSep2 z TI TO i1 i2 [i1, a] [i2, b] :=
  ⟨D.tz, D.oz, D.to, D.t1, by simp, by simp [D.z1, D.za], by simp [D.o1, D.oa], D.t2, by simp, by simp [D.z2, D.zb], by simp [D.o2, D.ob], by simp [D.i12, D.b1], by simp [D.i12.symm, D.a2]⟩
theorem apt_new (n a b : Nat) (h1 : a < n) (h2 : b < n) : Apt (n + 4) (n + 2) (n + 3) n (n + 1) a b := by constructor <;> (intro z; simp only [Addr] at *; omega)
theorem turn_mix {P : Program} {w : World} {K : PySem.W.Frag} {elts : List Expr} {kk : Nat} {tpos : Pos} {a b z TI TO i1 i2 : Addr} (D : Apt z TI TO i1 i2 a b) :
    Turn P w K (.Tuple elts kk tpos) (ItM K a b) [z, TI, TO, i1, i2] z (fun i h => IsZip h z TI TO .none ∧ IsTupOf2 h TI (.ref i1) (.ref i2) ∧ (∃ x y, IsTupOf2 h TO x y) ∧ h.IsListIter i1 a i ∧ h.IsTupleIter i2 b i) where
  mem := by simp
  obj := fun i h st c hc => by
    obtain ⟨c1, c2, ⟨x, y, c3⟩, ⟨u1, e1, _, d1⟩, ⟨u2, e2, _, d2⟩⟩ := st
    rcases (show c = z ∨ c = TI ∨ c = TO ∨ c = i1 ∨ c = i2 by simpa using hc) with e | e | e | e | e
    · rw [e]; exact ⟨_, c1, fun v q => nomatch q⟩
    · rw [e]; exact ⟨_, c2, fun v q => nomatch q⟩
    · rw [e]; exact ⟨_, c3, fun v q => nomatch q⟩
    · exact ⟨u1, e ▸ e1, fun v q => by rw [d1] at q; cases q⟩
    · exact ⟨u2, e ▸ e2, fun v q => by rw [d2] at q; cases q⟩
  keep := fun i h h' st k => by
    obtain ⟨c1, c2, ⟨x, y, c3⟩, h1, h2⟩ := st
    exact ⟨k z (by simp) _ c1, k TI (by simp) _ c2, ⟨x, y, k TO (by simp) _ c3⟩, h1.at fun o q => k i1 (by simp) o q, h2.at fun o q => k i2 (by simp) o q⟩
  item := by
    intro X hP hw hK hc i pins s σ H E I hf st hg
    subst hP hw hK
    obtain ⟨c1, c2, ⟨x0, y0, c3⟩, h1, h2⟩ := st
    obtain ⟨xs, ys, x, y, qx, qy, ex, ey⟩ := hg
    obtain ⟨its, rv, p, _⟩ := I.list qx
    obtain ⟨jts, rw', q, _⟩ := I.tuple qy
    obtain ⟨u, eu, ru⟩ := rv.get ex
    obtain ⟨v, ev, rv'⟩ := rw'.get ey
    have hh := I.ok.hd hc
    have hzl : z < s.heap.objs.size := Heap.lt_size c1
    have l1 : i < its.toArray.size := by simpa using (List.getElem?_eq_some_iff.mp eu).1
    have l2 : i < jts.toArray.size := by simpa using (List.getElem?_eq_some_iff.mp ev).1
    refine wpAny_pyNext_zipD2_item D.sep (Draws.list (A := X.A.in1) hh i1 a D.a1 its.toArray) (Draws.tuple (A := X.A.in1) hh i2 b D.b2 jts.toArray) c1 c2 c3 ⟨h1, p.isList⟩ ⟨h2, q⟩ l1 l2 fun x1 x2 h' tk e1 e2 z' o' s1 s2 hT hsz hk => ?_
    have e1' : u = x1 := by rw [show its.toArray[i]? = some u by simpa using eu] at e1; exact Option.some.inj e1
    have e2' : v = x2 := by rw [show jts.toArray[i]? = some v by simpa using ev] at e2; exact Option.some.inj e2
    subst e1' e2'
    refine ⟨_, rfl, wpAny_letOwnedTupleGo_zip (s := { s with heap := h', toks := tk }) z' fun h'' z'' sb => ?_⟩
    have hT2 : h''.get? s.heap.objs.size = some { cls := .type "tuple", data := .seq #[u, v] } := (sb.2 _ (Nat.ne_of_gt hzl)).trans hT
    have new : ObjOk X.prog X.w (upd H s.heap.objs.size (.tup [x, y])) h'' s.heap.objs.size (.tup [x, y]) := ⟨by show 2 ≤ sizeLine; decide, [u, v], .cons ru (.cons rv' .nil), ⟨_, hT2, rfl, _, rfl⟩⟩
    have I1 := I.turnedNew (t' := tk) (ch := [z, TI, TO, i1, i2]) (fun c o hb q => (sb.2 c (fun e => hb (by simp [e]))).trans (hk c o (fun e => hb (by simp [e])) (fun e => hb (by simp [e])) (fun e => hb (by simp [e])) (fun e => hb (by simp [e])) q)) hf (Nat.le_refl _) new
    refine ⟨.ref s.heap.objs.size, _, I1, rfl, ⟨_, x, y, rfl, I.hok.fresh (Nat.le_refl _), rfl, fun l hl => by rw [I.list_inj hl qx]; exact ex, fun l hl => by rw [I.tuple_inj hl qy]; exact ey⟩, ⟨z'', ?_, ⟨u, v, ?_⟩, ?_, ?_⟩, fun c hcm => ?_⟩
    · exact (sb.2 _ D.tz).trans (hk _ _ D.tz D.to D.t1 D.t2 c2)
    · exact (sb.2 _ D.oz).trans o'
    · exact s1.1.at fun o q => (sb.2 _ D.z1.symm).trans q
    · exact s2.1.at fun o q => (sb.2 _ D.z2.symm).trans q
    · have hlt : c < s.heap.objs.size := by
        obtain ⟨_, f1, _⟩ := h1
        obtain ⟨_, f2, _⟩ := h2
        rcases (show c = z ∨ c = TI ∨ c = TO ∨ c = i1 ∨ c = i2 by simpa using hcm) with e | e | e | e | e
        · exact e ▸ hzl
        · exact e ▸ Heap.lt_size c2
        · exact e ▸ Heap.lt_size c3
        · exact e ▸ Heap.lt_size f1
        · exact e ▸ Heap.lt_size f2
      rw [upd_ne (Nat.ne_of_lt hlt)]
      exact (hf c hcm).1
  done := by
    intro X hP hw hK hc i pins s σ H E I hf st hg
    subst hP hw hK
    obtain ⟨c1, c2, ⟨x0, y0, c3⟩, h1, h2⟩ := st
    obtain ⟨xs, ys, qx, qy, hend⟩ := hg
    obtain ⟨its, rv, p, _⟩ := I.list qx
    obtain ⟨jts, rw', q, _⟩ := I.tuple qy
    have hh := I.ok.hd hc
    have m1 := rv.length
    have m2 := rw'.length
    refine wpAny_pyNext_zipD2_end D.sep (Draws.list (A := X.A.in1) hh i1 a D.a1 its.toArray) (Draws.tuple (A := X.A.in1) hh i2 b D.b2 jts.toArray) c1 c2 c3 ⟨h1, p.isList⟩ ⟨h2, q⟩ (by simp; omega) (by simp; omega) (by simp; omega) fun h' tk hk => ?_
    exact ⟨rfl, I.turnedL (t' := tk) (ch := [z, TI, TO, i1, i2]) (fun c o hb q => hk c o (fun e => hb (by simp [e])) (fun e => hb (by simp [e])) (fun e => hb (by simp [e])) (fun e => hb (by simp [e])) q) hf⟩
  self := fun A i s Q E st h => wpAny_pyIter_zip st.1 h
def iZipM (K : PySem.W.Frag) (ta : TA) : TI := fun σ H R => ta σ H fun vs H1 => ∃ a b xs ys, vs = [.ref a, .ref b] ∧ SqL K H1 a xs ∧ SqT K H1 b ys ∧ R (ItM K a b) H1
theorem pi_zipM {X : Cx} {e e2 : Expr} {ta : TA} {p pos tpos : Pos} {elts : List Expr} {kk : Nat} (hg : Gl X "zip") (hm : X.mg "zip" = none) (ha : PA X [e, e2] ta)
    (hs : starEach [e, e2] X.env = (false, eval e X.env) :: starEach [e2] X.env := by rfl) (hpl : (backTo pos (starEach [e2] X.env)).any (·.1) = false := by rfl) :
    PI X (.Tuple elts kk tpos) (.Call (.Name "zip" p) [e, e2] [] pos) (iZipM X.K ta) := by
  refine ⟨fun pins s σ H R I h => Call_ (ld_blt I hg hm boot_zip (callWith_type1 (thn (ha.run pos pins s σ H _ I h) fun us s1 ⟨vs, H1, I1, r1, q1⟩ => ?_) hs hpl))⟩
  obtain ⟨a, b, xs, ys, rfl, qx, qy, q1⟩ := q1
  obtain ⟨u1, u2, rfl, e1, e2⟩ := vals2 r1
  cases e1
  cases e2
  obtain ⟨its, rv, p1, _⟩ := I1.list qx
  obtain ⟨jts, rw', p2, _⟩ := I1.tuple qy
  have la : a < s1.heap.objs.size := p1.lt
  have lb : b < s1.heap.objs.size := by obtain ⟨o, ho, _⟩ := id p2; exact Heap.lt_size ho
  have fresh : ∀ c, c ∈ [s1.heap.objs.size + 4, s1.heap.objs.size + 2, s1.heap.objs.size + 3, s1.heap.objs.size, s1.heap.objs.size + 1] → FpOk X pins H1 c := fun c hcm => by
    have hle : s1.heap.objs.size ≤ c := by
      rcases (show c = s1.heap.objs.size + 4 ∨ c = s1.heap.objs.size + 2 ∨ c = s1.heap.objs.size + 3 ∨ c = s1.heap.objs.size ∨ c = s1.heap.objs.size + 1 by simpa using hcm) with e | e | e | e | e <;> rw [e]
      · exact Nat.le_add_right _ _
      · exact Nat.le_add_right _ _
      · exact Nat.le_add_right _ _
      · exact Nat.le_refl _
      · exact Nat.le_add_right _ _
    exact I1.fpOk hle (I1.hok.fresh hle)
  refine zip_begins2 (begins_list a its.toArray) (begins_tuple b jts.toArray) p1.isList p2 fun h' hz hTI hTO g1 g2 hsz hk => wpAny_pyIter_zip hz ?_
  exact ⟨s1.heap.objs.size + 4, [s1.heap.objs.size + 4, s1.heap.objs.size + 2, s1.heap.objs.size + 3, s1.heap.objs.size, s1.heap.objs.size + 1], _, _, H1, rfl, I1.kept (t' := s1.toks) hk,
    turn_mix (apt_new s1.heap.objs.size a b la lb), ⟨hz, hTI, ⟨_, _, hTO⟩, ⟨_, g1, rfl, rfl⟩, ⟨_, g2, rfl, rfl⟩⟩, fresh, q1⟩
def gZipM (c : Bool) (ws : List DV) : Option (List DV) := match ws with
  | [.lst ws, .tup zs] => some (pairs ws zs)
  | [.brw ws, .tup zs] => if c = true then some (pairs ws zs) else none
  | _ => none
theorem pairs_length : ∀ (xs ys : List DV), (pairs xs ys).length = min xs.length ys.length
  | [], ys => by simp [pairs]
  | _ :: _, [] => rfl
  | x :: xs, y :: ys => by
    show (pairs xs ys).length + 1 = _
    rw [pairs_length xs ys, List.length_cons, List.length_cons, Nat.succ_min_succ]
section
variable {X : Cx} {E : L2.St → XK} {a b : Expr} {pos tpos : Pos} {dr : DA}
theorem zip_mix {c : Bool} {F0 Fr : Hp} {Hb : Hp} {ρ : List Addr} {H : Hp} {h : DH} {x y : V} {w : DV} {ws zs : List DV} {Rr : It → Hp → Prop} (R : Rel X.K Hb ρ Fr h H) (g : Same (if c = true then Fr else F0) Fr) (r1 : RepT X.K Hb ρ Fr x w) (r2 : RepT X.K Hb ρ Fr y (.tup zs)) (e1 : lstOf w = some ws)
    (h1 : c = true ∨ held w = true) (k : ∀ (J : It) (Iv : Hp → List Addr → Hp → Prop), Src X.K J (pairs ws zs) Iv → Iv Hb ρ (if c = true then Fr else F0) → Rr J H) :
    ∃ a b xs ys, [x, y] = [V.ref a, V.ref b] ∧ SqL X.K H a xs ∧ SqT X.K H b ys ∧ Rr (ItM X.K a b) H := by
  obtain ⟨p, xs, Iv1, rfl, iv1, m1, q1, s1⟩ := lst_iv c F0 r1 e1 h1
  cases r2 with
  | per r2 =>
    cases r2 with
    | tup hq rq =>
      rename_i q ys
      have hT : SqT X.K Hb q ys := SqT.of hq
      refine ⟨p, q, xs, ys, rfl, q1 _ _ _ _ _ _ iv1 g R, sqt_same R.sub hT, k _ (fun Hb ρ G => Iv1 Hb ρ G ∧ SqT X.K Hb q ys ∧ Reps X.K Hb ρ ys zs) ⟨fun _ _ _ _ _ s p iv => ⟨m1 _ _ _ _ _ s p iv.1, sqt_same s iv.2.1, iv.2.2.mono s p⟩, fun Hb ρ G Fr h H iv g R => ?_, fun Hb ρ G Fr h H i w iv g R e => ?_⟩ ⟨iv1, hT, rq⟩⟩
      · have l1 := (s1 _ _ _ iv.1).length
        have l2 := iv.2.2.length
        refine ⟨xs, ys, q1 _ _ _ _ _ _ iv.1 g R, sqt_same R.sub iv.2.1, ?_⟩
        rw [pairs_length, l1, l2]
        rcases Nat.le_total ws.length zs.length with z | z
        · exact .inl ⟨(Nat.min_eq_left z).symm, by rw [Nat.min_eq_left z]; exact z⟩
        · exact .inr ⟨(Nat.min_eq_right z).symm, by rw [Nat.min_eq_right z]; exact z⟩
      · obtain ⟨x, y, ex, ey, rfl⟩ := pairs_get e
        obtain ⟨vx, evx, rx⟩ := (s1 _ _ _ iv.1).get ex
        obtain ⟨vy, evy, ry⟩ := iv.2.2.get ey
        have a1 := q1 _ _ _ _ _ _ iv.1 g R
        have a2 := sqt_same R.sub iv.2.1
        refine ⟨⟨xs, ys, vx, vy, a1, a2, evx, evy⟩, fun v H' yl => ?_⟩
        obtain ⟨T, x', y', rfl, hT, rfl, f1, f2⟩ := yl
        have g1 := f1 xs a1
        have g2 := f2 ys a2
        rw [evx] at g1
        rw [evy] at g2
        cases g1
        cases g2
        obtain ⟨s2, R2⟩ := R.new hT (.tup [vx, vy])
        exact ⟨_, s2, R2, rep_tup (R.hb_fresh hT) (.cons rx (.cons ry .nil))⟩
theorem si_zipM {c : Bool} {elts : List Expr} {kk : Nat} {p : Pos} (hg : Gl X "zip") (hm : X.mg "zip" = none) (ha : SA X E [a, b] dr) (hs : starEach [a, b] X.env = (false, eval a X.env) :: starEach [b] X.env := by rfl) (hpl : (backTo pos (starEach [b] X.env)).any (·.1) = false := by rfl) :
    SI X E c (.Tuple elts kk tpos) (.Call (.Name "zip" p) [a, b] [] pos) (dSrc (gZipM c) dr) := (pi_zipM hg hm ha hs hpl).weak fun s H Rr ⟨Hb, ρ, F0, Fr, σ, h, R, x, k⟩ => by
  refine ⟨Hb, ρ, F0, Fr, σ, h, R, x, (Rz.bind k).imp (fun ws h1 k => ?_) fun _ _ z => z⟩
  obtain ⟨rs, er, kz⟩ := Rz.ofO k
  clear k
  intro Hb1 ρ1 H1 vs s1 p1 R1 r1
  have g : Same (if c = true then Fr else F0) Fr := by
    cases c with
    | true => exact Same.refl _
    | false => exact x.fr
  have kk := fun (J : It) (Iv : Hp → List Addr → Hp → Prop) => kz Hb1 ρ1 H1 J Iv s1 p1 R1
  unfold gZipM at er
  split at er
  · cases er
    cases r1 with
    | cons q1 rr =>
      cases rr with
      | cons q2 rr =>
        cases rr
        exact zip_mix R1 g q1 q2 rfl (.inr rfl) kk
  · cases c with
    | true =>
      cases er
      cases r1 with
      | cons q1 rr =>
        cases rr with
        | cons q2 rr =>
          cases rr
          exact zip_mix R1 g q1 q2 rfl (.inl rfl) kk
    | false => cases er
  · cases er
end
end DL
namespace DL
open PySem PySem.Spec PyProof.Rows L2
def repD : DV → DV → Option (List DV)
  | .lst ws, .int k => if (0 ≤ k ∧ k ≤ 1000) ∧ ws.length ≤ 100 then some (List.replicate k.toNat ws).flatten else none
  | _, _ => none
def dNewRep (i : Nat) (da db : DE) : DS := fun σ h => (da σ h).bind fun a h1 => (db σ h1).bind fun b h2 => (ofO (repD a b) h2).bind fun ws h3 => .ok (.next (setO i ws σ)) h3
def setAt (ws : List DV) (k y : DV) : Option (List DV) := match k with
  | .int k => if 0 ≤ k ∧ k < ws.length then some (ws.set k.toNat y) else none
  | _ => none
def dStL (j : Nat) (de di : DE) : DS := fun σ h => (de σ h).bind fun y h1 => chk (held y) ((ofO (getO σ j) h1).bind fun ws h1 => (di σ h1).bind fun k h2 => (ofO (setAt ws k y) h2).bind fun zs h3 => .ok (.next (setO j zs σ)) h3)
def dRevL (da : DE) : DE := fun σ h => (da σ h).bind fun a h1 => ofO ((lstOf a).map fun ws => .lst ws.reverse) h1
theorem Reps.set {K : PySem.W.Frag} {Hb : Hp} {ρ : List Addr} {v : V} {w : DV} (r : Rep K Hb ρ v w) : ∀ {vs : List V} {ws : List DV} (n : Nat), Reps K Hb ρ vs ws → Reps K Hb ρ (vs.set n v) (ws.set n w)
  | _, _, _, .nil => .nil
  | _, _, 0, .cons _ t => .cons r t
  | _, _, n + 1, .cons h t => .cons h (Reps.set r n t)
theorem Reps.rev {K : PySem.W.Frag} {Hb : Hp} {ρ : List Addr} : ∀ {vs : List V} {ws : List DV}, Reps K Hb ρ vs ws → Reps K Hb ρ vs.reverse ws.reverse
  | _, _, .nil => .nil
  | _, _, .cons h t => by rw [List.reverse_cons, List.reverse_cons]; exact (Reps.rev t).append (.one h)
theorem getO_at {σ : DSt} {j : Nat} {ws : List DV} (e : getO σ j = some ws) : σ[j]? = some (.own ws) := by
  unfold getO at e
  split at e
  · rename_i ws' h
    cases e; exact h
  · cases e
section
variable {X : Cx} {E : XK} {e a b o k : Expr} {pos pos' p2 : Pos} {da db de di : DE} {x : Str}
theorem ss_newRep {i : Nat} (hs : PS X (.Assign [.Name x pos'] (.BinOp a .Mult b p2) pos) (tAsg (tOp rRep (tD X.K X.mg (cE E) da) (tD X.K X.mg (cE E) db)) (gName i))) : SS X E (.Assign [.Name x pos'] (.BinOp a .Mult b p2) pos) (dNewRep i da db) :=
  hs.weak fun D s H ⟨Hb, ρ, F0, Fr, σ, h, R, x, z⟩ => by
  refine ⟨Hb, ρ, F0, Fr, σ, h, R, x, (Rz.bind z).imp (fun wa h1 z => ?_) (Pex.lift x.fr)⟩
  intro Hb1 ρ1 H1 va s1 p1 R1 r1
  refine ⟨Hb1, ρ1, F0, Fr, σ, h1, R1, x.mono s1 p1, (Rz.bind z).imp (fun wb h2 z => ?_) fun c h q => Pex.lift x.fr c h (Pex.back s1 p1 c h q)⟩
  obtain ⟨ws, ew, kk⟩ := Rz.ofO (Rz.bind z)
  intro Hb2 ρ2 H2 vb s2 p2 R2 r2
  have r1' := r1.mono s2 p2 (Same.refl _)
  obtain ⟨us, j, rfl, rfl, ew'⟩ : ∃ us j, wa = .lst us ∧ wb = .int j ∧ (if (0 ≤ j ∧ j ≤ 1000) ∧ us.length ≤ 100 then some (List.replicate j.toNat us).flatten else none) = some ws := by
    cases wa with
    | lst us =>
      cases wb with
      | int j => exact ⟨us, j, rfl, rfl, ew⟩
      | _ => cases ew
    | _ => cases ew
  · by_cases hc : (0 ≤ j ∧ j ≤ 1000) ∧ us.length ≤ 100
    · rw [if_pos hc] at ew'
      cases ew'
      obtain ⟨p, xs, e1, hq, rr⟩ := lst_of R2 r1'
      have hl : xs.length * j.toNat ≤ cap := by
        rw [rr.length]
        exact Nat.le_trans (Nat.mul_le_mul hc.2 (show j.toNat ≤ 1000 by omega)) (by decide)
      refine ⟨p, j, xs, e1, int_of r2, hq, by omega, by omega, cap_le hl, fun c hp => ?_⟩
      have x2 := (x.mono s1 p1).mono s2 p2
      exact kk Hb2 ρ2 _ _ _ (s1.trans s2) (p1.trans p2) (R2.lend hp (.lst (List.replicate j.toNat xs).flatten)) (slots_own (slots_frame (same_lend (R2.fr_fresh hp)) x2) upd_same (Same.free x2.fr (R2.fr_fresh hp)) (fun j zs _ e => slots_fresh R2 x2 hp j zs e) (rr.flat _))
    · rw [if_neg hc] at ew'; cases ew'
theorem ss_stL {j : Nat} (hs : PS X (.Assign [.Subscript o k pos'] e pos) (tAsg (tD X.K X.mg (cE E) de) (L2.gSub (tVar j) (tD X.K X.mg (cE E) di) rSetL))) : SS X E (.Assign [.Subscript o k pos'] e pos) (dStL j de di) :=
  hs.weak fun D s H ⟨Hb, ρ, F0, Fr, σ, h, R, x, z⟩ => by
  refine ⟨Hb, ρ, F0, Fr, σ, h, R, x, (Rz.bind z).imp (fun y h1 z => ?_) (Pex.lift x.fr)⟩
  obtain ⟨hy, z⟩ := Rz.chk z
  obtain ⟨ws, ew, z⟩ := Rz.ofO (Rz.bind z)
  intro Hb1 ρ1 H1 vv s1 p1 R1 r1
  have x1 := x.mono s1 p1
  have eσ := getO_at ew
  obtain ⟨a, xs, es, fa, n0, ra⟩ := x1.at_ j _ eσ
  refine ⟨.ref a, es, Hb1, ρ1, F0, Fr, σ, h1, R1, x1, (Rz.bind z).imp (fun w h2 z => ?_) fun c h q => Pex.lift x.fr c h (Pex.back s1 p1 c h q)⟩
  obtain ⟨zs, ez, kk⟩ := Rz.ofO (Rz.bind z)
  intro Hb2 ρ2 H2 vk s2 p2 R2 r2
  unfold setAt at ez
  split at ez
  · rename_i i
    by_cases hc : 0 ≤ i ∧ i < ws.length
    · rw [if_pos hc] at ez
      cases ez
      have ra2 := ra.mono s2 p2
      have x2 := x1.mono s2 p2
      obtain ⟨R3, x3⟩ := own_write R2 x2 eσ es fa n0 (Reps.set ((r1.held hy).mono s2 p2) i.toNat ra2)
      refine ⟨a, xs, i, i.toNat, rfl, int_of r2, R2.fr _ _ fa, ?_, kk Hb2 ρ2 _ _ s (s1.trans s2) (p1.trans p2) R3 x3⟩
      unfold ixN
      rw [if_pos hc.1, if_pos (by rw [ra.length]; exact hc.2)]
    · rw [if_neg hc] at ez; cases ez
  · cases ez
theorem se_revL {E : L2.St → XK} {k : Nat} {p1 p2 p3 : Pos} (he : SE X E e de) : SE X E (.Subscript e (.Slice none none (some (.UnaryOp .USub (.Constant (.int 1) k p1) p2)) p3) pos) (dRevL de) := (pe_revL he).weak fun s H Q ⟨Hb, ρ, F0, Fr, σ, h, R, x, z⟩ => by
  refine ⟨Hb, ρ, F0, Fr, σ, h, R, x, (Rz.bind z).imp (fun wa h1 z => ?_) fun _ _ z => z⟩
  obtain ⟨w, ew, kk⟩ := Rz.ofO z
  obtain ⟨ws, e1, e2⟩ := Option.map_eq_some_iff.mp ew
  subst e2
  intro Hb1 ρ1 H1 v s1 p1 R1 r1
  obtain ⟨a, xs, ex, hq, rr⟩ := lstR_of R1 r1 e1
  exact ⟨a, xs, ex, hq, fun p hp => Pst.lst R1 (Pst.back s1 p1 _ _ kk) rr.rev p hp⟩
end
theorem pe_disp1' {X : Cx} {n : Nat} {k v : Expr} {pos : Pos} {tk tv : TE} (hr : Room n X.A) (hk : PE X k tk) (hv : PE X v tv) : PE X (.Dict [some k] [v] pos) (tDisp1 tk tv) := pe_disp1 (by have := hr.un; omega) hk hv
end DL
namespace DL
open PySem PySem.Spec PyProof.Rows L2
def dPar (i j : Nat) (da : DA) : DS := fun σ h => (da σ h).bind fun ws h1 => match ws with
  | [v, w] => chk (held v) (chk (held w) (.ok (.next (setS j w (setS i v σ))) h1))
  | _ => .bad
def dPar3 (i j l : Nat) (da : DA) : DS := fun σ h => (da σ h).bind fun ws h1 => match ws with
  | [u, v, w] => chk (held u) (chk (held v) (chk (held w) (.ok (.next (setS l w (setS j v (setS i u σ)))) h1)))
  | _ => .bad
section
variable {X : Cx} {E : XK} {da : DA} {st : Stmt}
theorem ss_par {i j : Nat} (p : PS X st (tPar i j (tDs X.K X.mg (cE E) da))) : SS X E st (dPar i j da) := p.weak fun D s H ⟨Hb, ρ, F0, Fr, σ, h, R, x, k⟩ => by
  refine ⟨Hb, ρ, F0, Fr, σ, h, R, x, (Rz.bind k).imp (fun ws h1 k => ?_) (Pex.lift x.fr)⟩
  intro Hb1 ρ1 H1 vs s1 p1 R1 r1
  have x1 := x.mono s1 p1
  match ws, k with
  | [v, w], k =>
    obtain ⟨hv, k⟩ := Rz.chk k
    obtain ⟨hw, k⟩ := Rz.chk k
    cases r1 with
    | cons a b =>
      cases b with
      | cons c d =>
        cases d
        exact ⟨_, _, rfl, k Hb1 ρ1 Fr _ _ s1 p1 R1 (slots_set (slots_set x1 (a.held hv)) (c.held hw))⟩
theorem ss_par3 {i j l : Nat} (p : PS X st (tPar3 i j l (tDs X.K X.mg (cE E) da))) : SS X E st (dPar3 i j l da) := p.weak fun D s H ⟨Hb, ρ, F0, Fr, σ, h, R, x, k⟩ => by
  refine ⟨Hb, ρ, F0, Fr, σ, h, R, x, (Rz.bind k).imp (fun ws h1 k => ?_) (Pex.lift x.fr)⟩
  intro Hb1 ρ1 H1 vs s1 p1 R1 r1
  have x1 := x.mono s1 p1
  match ws, k with
  | [u, v, w], k =>
    obtain ⟨hu, k⟩ := Rz.chk k
    obtain ⟨hv, k⟩ := Rz.chk k
    obtain ⟨hw, k⟩ := Rz.chk k
    cases r1 with
    | cons a b =>
      cases b with
      | cons c d =>
        cases d with
        | cons e f =>
          cases f
          exact ⟨_, _, _, rfl, k Hb1 ρ1 Fr _ _ s1 p1 R1 (slots_set (slots_set (slots_set x1 (a.held hu)) (c.held hv)) (e.held hw))⟩
end
@[simp] theorem dPar_ap (i j : Nat) (da : DA) (σ : DSt) (h : DH) : dPar i j da σ h = (da σ h).bind fun ws h1 => match ws with
  | [v, w] => chk (held v) (chk (held w) (.ok (.next (setS j w (setS i v σ))) h1))
  | _ => .bad := nrfl rfl
@[simp] theorem dPar3_ap (i j l : Nat) (da : DA) (σ : DSt) (h : DH) : dPar3 i j l da σ h = (da σ h).bind fun ws h1 => match ws with
  | [u, v, w] => chk (held u) (chk (held v) (chk (held w) (.ok (.next (setS l w (setS j v (setS i u σ)))) h1)))
  | _ => .bad := nrfl rfl
end DL
namespace DL
open PySem PySem.Spec PyProof.Rows L2
theorem fn_bad {P : Program} {w : World} {K : PySem.W.Frag} {mg : Str → Option Value} {base : Heap} {CX : CXT} {k : Nat} {f : Addr} {fd : FuncData} {ps : List Str} {n : Nat} (hn : ps.length = n) :
    FnOk P w K mg base CX k f fd ps (spD K mg n fun _ _ => .bad) :=
  ⟨fun vs H Q E h => h.1.trans hn.symm, fun A outer s H args us vs Q E hr he hb hv hs => by
    obtain ⟨_, _, _, _, _, _, _, _, k⟩ := hs
    exact k.elim⟩
end DL
namespace DL
open PySem PySem.Spec PyProof.Rows L2
theorem eqU_all {y : V} : ∀ {ys : List V} {us : List Value}, Vals ys us → ys.all flatV = true → us.countP (eqU y) = ys.countP fun z => eqV z y
  | _, _, .nil, _ => rfl
  | z :: ys, u :: us, .cons r t, f => by
    rw [List.all_cons, Bool.and_eq_true] at f
    rw [List.countP_cons, List.countP_cons, eqU_all t f.2, eqU_of r f.1]
def rCntF (K : PySem.W.Frag) : V → List V → Hp → VK → Prop := fun x xs H Q => ∃ (a : Addr) (ys : List V) (y : V), x = .ref a ∧ xs = [y] ∧ SqL K H a ys ∧ flatV y = true ∧ ys.all flatV = true ∧ Q (.int ((ys.countP fun z => eqV z y : Nat) : Int)) H
theorem mt_cntF {X : Cx} : MtR X "list.count" (rCntF X.K) := by
  intro pins s σ H x xs v us Q I rx rxs h
  obtain ⟨a, ys, y, rfl, rfl, hs, fy, fys, q⟩ := h
  cases rx
  cases rxs with
  | cons ry rt =>
    rename_i uy ut
    cases rt
    obtain ⟨its, rv, ⟨⟨cls, dd, data, sl⟩, n, ho, hc, hdn, hd⟩, hlen⟩ := I.list hs
    simp only at hc hd
    subst hc hd
    refine call_meets PySem.F.slot_list_count ⟨_, ho, rfl⟩ PySem.F.entry_list_count (PySem.F.args_list_count_2 _ _) (SeqAt.list_countAt a its.toArray n dd sl uy (eqU y)) ⟨ho, fun u' hu' => mem_eqAt ry fy rv fys u' (by simpa using hu'), ?_⟩
    have e : its.toArray.toList.countP (eqU y) = ys.countP fun z => eqV z y := by rw [List.toList_toArray]; exact eqU_all rv fys
    refine ⟨.int ((ys.countP fun z => eqV z y : Nat) : Int), H, I.tok _, ⟨s.toks, ?_⟩, q⟩
    show Value.int ((its.toArray.toList.countP (eqU y) : Nat) : Int) s.toks = Value.int ((ys.countP fun z => eqV z y : Nat) : Int) s.toks
    rw [e]
def dOwnM (i : Nat) (g : DV → List DV → Option DV) (da : DA) : DE := fun σ h => chk (isL i σ h) ((da σ h).bind fun vs h1 => (ofO (one1 vs) h1).bind fun v h2 => (ofO (getO σ i) h2).bind fun ws h3 => ofO (g v ws) h3)
def OwnMD (X : Cx) (r : V → List V → Hp → VK → Prop) (g : DV → List DV → Option DV) : Prop := ∀ (Hb : Hp) (ρ : List Addr) (Fr : Hp) (h : DH) (H : Hp) (a : Addr) (xs : List V) (ws : List DV) (y : V) (v w : DV) (Q : VK), Rel X.K Hb ρ Fr h H → H a = some (.lst xs) → Reps X.K Hb ρ xs ws → RepT X.K Hb ρ Fr y v → g v ws = some w → Pst X.K Hb ρ Fr Q w h → r (.ref a) [y] H Q
section
variable {X : Cx} {E : L2.St → XK} {e : Expr} {da : DA}
theorem se_ownM {i : Nat} {r : V → List V → Hp → VK → Prop} {g : DV → List DV → Option DV} (hd : OwnMD X r g) (h : PE X e (tBM X.K "list" r (tVar i) (tDs X.K X.mg E da))) : SE X E e (dOwnM i g da) := h.weak fun s H Q ⟨Hb, ρ, F0, Fr, σ, h, R, x, k⟩ => by
  obtain ⟨hl, k⟩ := Rz.chk k
  obtain ⟨a, xs0, es, hH⟩ := isL_at R x hl
  refine ⟨.ref a, es, Or.inl ⟨rfl, _, SqL.of hH⟩, Hb, ρ, F0, Fr, σ, h, R, x, (Rz.bind k).imp (fun ws h1 k => ?_) fun _ _ z => z⟩
  obtain ⟨w, ew, k⟩ := Rz.ofO (Rz.bind k)
  obtain ⟨zs, ez, k⟩ := Rz.ofO (Rz.bind k)
  intro Hb1 ρ1 H1 vs s1 p1 R1 r1
  have x1 := x.mono s1 p1
  obtain ⟨y, rfl, ry⟩ : ∃ y, vs = [y] ∧ RepT X.K Hb1 ρ1 Fr y w := by
    cases r1 with
    | nil => cases ew
    | cons ra rb =>
      cases rb with
      | nil => cases ew; exact ⟨_, rfl, ra⟩
      | cons _ _ => cases ew
  unfold getO at ez
  cases eq : σ[i]? with
  | none => rw [eq] at ez; cases ez
  | some q =>
    rw [eq] at ez
    have y1 := x1.at_ i q eq
    cases q with
    | un => cases ez
    | fdt m => cases ez
    | dx D m => cases ez
    | fdx D m => cases ez
    | dct m => cases ez
    | val w => cases ez
    | own us =>
      cases ez
      obtain ⟨b, xs, e1, f, n0, ru⟩ := y1
      have eb : b = a := by rw [es] at e1; injection e1 with z; injection z with z; injection z with z; exact z.symm
      subst eb
      obtain ⟨u, eu, k⟩ := Rz.ofO k
      exact hd Hb1 ρ1 Fr h1 H1 b xs _ y w u Q R1 (R1.fr _ _ f) ru ry eu (fun Hb2 ρ2 H2 v s2 p2 R2 r2 => k Hb2 ρ2 H2 v (s1.trans s2) (p1.trans p2) R2 r2)
end
def blsV : List DV → Option (List Bool)
  | [] => some []
  | .bl b :: ws => (blsV ws).map fun bs => b :: bs
  | _ => none
theorem reps_bls {K : PySem.W.Frag} {Hb : Hp} {ρ : List Addr} : ∀ {ws : List DV} {xs : List V} {bs : List Bool}, Reps K Hb ρ xs ws → blsV ws = some bs → xs = bs.map V.bl
  | [], _, bs, r, e => by cases r; cases e; rfl
  | w :: ws, _, bs, r, e => by
    cases r with
    | cons ra rb =>
      cases w with
      | bl b =>
        obtain ⟨cs, e1, e2⟩ := Option.map_eq_some_iff.mp (show (blsV ws).map (fun bs => b :: bs) = some bs from e)
        subst e2
        cases ra
        rw [reps_bls rb e1]; rfl
      | _ => cases e
def gCntB : DV → List DV → Option DV := fun v ws => match v with
  | .bl b => (blsV ws).map fun bs => .int ((bs.count b : Nat) : Int)
  | _ => none
def gIdxB : DV → List DV → Option DV := fun v ws => match v with
  | .bl b => (blsV ws).bind fun bs => if bs.contains b then some (.int ((bs.idxOf b : Nat) : Int)) else none
  | _ => none
theorem flat_bls (bs : List Bool) : (bs.map V.bl).all flatV = true := by
  rw [List.all_eq_true]
  intro v hv
  obtain ⟨b, _, rfl⟩ := List.mem_map.mp hv
  rfl
theorem cnt_bls (b : Bool) : ∀ bs : List Bool, ((bs.map V.bl).countP fun z => eqV z (V.bl b)) = bs.count b
  | [] => rfl
  | c :: bs => by
    rw [List.map_cons, List.countP_cons, cnt_bls b bs, List.count_cons]
    rfl
theorem om_cnt {X : Cx} : OwnMD X (rCntF X.K) gCntB := fun Hb ρ Fr h H a xs ws y v w Q R hH rr ry e q => by
  cases v with
  | bl b =>
    obtain ⟨bs, e1, e2⟩ := Option.map_eq_some_iff.mp (show (blsV ws).map (fun bs => DV.int ((bs.count b : Nat) : Int)) = some w from e)
    subst e2
    have ex := reps_bls rr e1
    subst ex
    have ey : y = .bl b := by cases ry with | per r => cases r; rfl
    subst ey
    refine ⟨a, _, _, rfl, rfl, SqL.of hH, rfl, flat_bls bs, ?_⟩
    rw [cnt_bls]
    exact q Hb ρ H _ (Same.refl _) (List.prefix_refl _) R (.per (.int _))
  | _ => cases e
theorem om_idx {X : Cx} : OwnMD X (rIndex X.K) gIdxB := fun Hb ρ Fr h H a xs ws y v w Q R hH rr ry e q => by
  cases v with
  | bl b =>
    obtain ⟨bs, e1, e2⟩ := Option.bind_eq_some_iff.mp (show ((blsV ws).bind fun bs => if bs.contains b then some (DV.int ((bs.idxOf b : Nat) : Int)) else none) = some w from e)
    have hm : b ∈ bs := by
      by_cases z : bs.contains b = true
      · exact List.contains_iff_mem.mp z
      · rw [if_neg z] at e2; cases e2
    rw [if_pos (List.contains_iff_mem.mpr hm)] at e2
    cases e2
    have ex := reps_bls rr e1
    subst ex
    have ey : y = .bl b := by cases ry with | per r => cases r; rfl
    subst ey
    have hlt := List.idxOf_lt_length_of_mem hm
    refine ⟨a, _, _, bs.idxOf b, .bl b, rfl, rfl, SqL.of hH, rfl, flat_bls bs, ?_, ?_, fun m z hlm hz => ?_, ?_⟩
    · rw [List.getElem?_map, List.getElem?_eq_getElem hlt, List.getElem_idxOf]; rfl
    · show (b == b) = true
      exact beq_self_eq_true b
    · rw [List.getElem?_map, List.getElem?_eq_getElem (show m < bs.length by omega)] at hz
      cases hz
      show (bs[m] == b) = false
      have := List.not_of_lt_findIdx (p := (· == b)) (xs := bs) hlm
      simpa using this
    · exact q Hb ρ H _ (Same.refl _) (List.prefix_refl _) R (.per (.int _))
  | _ => cases e
end DL
namespace DL
open PySem PySem.Spec PyProof.Rows L2
def gIsE (a : Addr) (g : V → Option Bool) : List DV → DH → Option DV := fun ws _ => match ws with
  | [.con (.ref b), .con c] => if b = a then (g c).map .bl else none
  | _ => none
theorem cr_isE {X : Cx} {a D : Addr} {oe : Obj} (hp : (a, oe) ∈ X.pn) (C : ExcC X.K D) (hz : Zc (.ref D) none oe) (hf : ∃ vs, oe.data = .fields vs) : CallR X (.builtin "isinstance") (rIsE X.K D a) := by
  intro pins s σ H xs us Q I r h
  obtain ⟨c, cv, b, rfl, hcv, e, q⟩ := h
  obtain ⟨u1, u2, rfl, r1, r2⟩ : ∃ u1 u2, us = [u1, u2] ∧ RelV (.ref a) u1 ∧ RelV c u2 := by
    cases r with
    | cons p q => cases q with
      | cons p' q' => cases q'; exact ⟨_, _, rfl, p, p'⟩
  cases r1
  rw [hcv _ r2]
  obtain ⟨vs, hv⟩ := hf
  have hget := (I.pin (a, oe) (List.mem_append_left _ hp)).1
  have J : PySem.W.InstAt s.heap a oe D none := by
    cases oe
    obtain ⟨z1, z2⟩ := hz
    cases z1; cases z2; cases hv
    exact ⟨hget, rfl, rfl, trivial⟩
  have it := PySem.W.handS_kitx_exc (x := a) (ox := oe) C.hg C.hk C.hs C.hd C.ha C.hn C.ht C.hm
  exact PySem.W.kia_one it I.kIn J e (fun z => nomatch z) fun tk => ⟨.bl b, H, I.kept (t' := tk) fun _ _ z => z, rfl, q⟩
def BenOk (K : PySem.W.Frag) (D : Addr) (g : V → Option Bool) : Prop := ∀ (c : V) (b : Bool), g c = some b → ∃ cv, (∀ u, RelV c u → u = cv) ∧ PySem.W.kitOne K (.ref D) cv = some b
theorem b_isE {X : Cx} {a D : Addr} {oe : Obj} {g : V → Option Bool} (hp : (a, oe) ∈ X.pn) (C : ExcC X.K D) (hz : Zc (.ref D) none oe) (hf : ∃ vs, oe.data = .fields vs) (hg : BenOk X.K D g) : Blt X (.builtin "isinstance") (gIsE a g) := ⟨_, cr_isE hp C hz hf, fun Hb ρ Fr h H xs ws w Q R r e k => by
  unfold gIsE at e
  split at e
  · rename_i b c
    by_cases hb : b = a
    · subst hb
      rw [if_pos rfl] at e
      obtain ⟨t, e1, e2⟩ := Option.map_eq_some_iff.mp e
      subst e2
      obtain ⟨cv, h1, h2⟩ := hg c t e1
      cases r with
      | cons ra rb => cases rb with
        | cons rc rd =>
          cases rd
          cases ra with
          | per ra => cases ra; cases rc with
            | per rc =>
              cases rc
              exact ⟨c, cv, t, rfl, h1, h2, k Hb ρ H _ (Same.refl _) (List.prefix_refl _) R (.per (.bl t))⟩
    · rw [if_neg hb] at e; cases e
  · cases e⟩
theorem se_cls {X : Cx} {E : L2.St → XK} {x : Str} {A : Addr} {pos : Pos} (hg : Gl X x) (hm : X.mg x = some (.ref A)) (hd : (x == ("__debug__" : Str)) = false := by decide) : SE X E (.Name x pos) (dC (.con (.ref A))) :=
  se_c (v := .ref A) (pe_glob hg hm rfl hd) fun _ _ => .con _
theorem c_neH {X : Cx} {k : Nat} (hr : L2H.RoomH k X.A) : Cmp X .NotEq gNe := ⟨one (by have := hr.un; omega)⟩
end DL
namespace DL
open PySem PySem.Spec PyProof.Rows L2
structure FnW (P : Program) (w : World) (K : PySem.W.Frag) (mg : Str → Option Value) (base : Heap) (k : Nat) (f : Addr) (fd : FuncData) (ps : List Str) (D : Addr) (sp : Addr → Sp) : Prop where
  one : ps.length = 1
  run : ∀ (A : Around) (outer : List Env) (s : Shared) (H : Hp) (args : Args) (us : List Value) (Q : VK) (E : XK) (p : Addr × Obj), L2H.RoomH k A → Zc (.ref D) none p.2 → (∃ vs, p.2.data = .fields vs) → L2H.PinOk outer H s p → Env0 P w K mg base A outer s H → BindsTo s fd args (ps.zip us) → Vals [.ref p.1] us → sp p.1 [.ref p.1] H Q E →
    codeAny (model P w) A (.call (.ref f) args) (CR (L2.CX P w) outer P w H s Q E) s
theorem fn_which {P : Program} {w : World} {K : PySem.W.Frag} {mg : Str → Option Value} {base : Heap} {k : Nat} {f : Addr} {x qual : Str} {st : Stmt} {fd : FuncData} {N ps : List Str} {D : Addr} {sp : Addr → Sp} (F : L2.Fun K x qual st f fd) (S : FnScope N ps (defScope st)) (h1 : ps.length = 1)
    (body : ∀ (cdv : Value) (A : Around) (outer : List Env) (s : Shared) (H : Hp) (Q : VK) (E : XK) (p : Addr × Obj), Zc (.ref D) none p.2 → (∃ vs, p.2.data = .fields vs) → L2H.RoomH k (A.deeper (envOfC qual (defScope st) s.heap.objs.size f cdv)) → sp p.1 [.ref p.1] H Q E →
      ∃ t, PSs (L2H.cxH (L2.CX P w) P w K mg base N qual (defScope st) f cdv A outer s H E p) (defBody st) t ∧ t { nx := fun _ H' => Q .non H', rt := Q } (L2.start N [.ref p.1]) H) :
    FnW P w K mg base (k + 1) f fd ps D sp := by
  obtain ⟨oc, od, kV, doc, pm, an, cdv, ct, osl, hfd, lk, hcd⟩ := F.ex
  subst hfd
  refine ⟨h1, fun A outer s H args us Q E p room hz hf pin e0 binds rv spec => ?_⟩
  have kx := e0.mod.kin.keeps fun b o e => (e0.bs b o e).1
  have nl := e0.mod.nolimit.keeps fun b o e => (e0.bs b o e).1
  have kinds : ∀ y ∈ ps.zip us, (defScope st).names.lookup y.1 = some .local ∨ ((defScope st).names.lookup y.1 = some .cell ∧ ((cellsFrom (s.heap.objs.size + 1) (defScope st).names []).lookup y.1).isSome = true) := fun y hy => by
    cases S.par y.1 (List.of_mem_zip hy).1 with
    | inl z => exact .inl z
    | inr z => exact .inr ⟨z, PySem.W.cellsFrom_some _ _ _ (.inl z)⟩
  refine codeAny_call_function room.depth (kx _ _ lk) rfl S.co S.gen rfl (PySem.W.codeRec_of kx hcd) (binds _ _ _ _ (wpAny_newFunctionEnv_cells S.kind kinds fun env he s1 ic => ?_))
  cases he
  refine ⟨nl.keeps ic.toInCall.keep, codeAny_func ?_⟩
  obtain ⟨t, ht, hq⟩ := body cdv A outer s H Q E p hz hf (room.deeper _) spec
  have I := L2H.inv_startH (CX := L2.CX P w) (K := K) (mg := mg) (base := base) (f := f) (cd := cdv) (E := E) (vs := [.ref p.1]) S pin e0 h1.symm rv ic
  refine wpAny_mono (ht.run [] s1 _ H _ I hq) (fun fl s2 z => ?_) fun _ _ z => z
  match fl, z with
  | .ret u, ⟨v, σ, H2, J, rr, q⟩ => exact ⟨v, H2, J.os, J.bare, J.base, J.hok, rr, q⟩
  | .next, ⟨σ, H2, J, q⟩ => exact ⟨.non, H2, J.os, J.bare, J.base, J.hok, rfl, q⟩
  | .brk, ⟨_, _, _, q⟩ => exact q.elim
  | .cont, ⟨_, _, _, q⟩ => exact q.elim
def spV (K : PySem.W.Frag) (w : DV) (a : Addr) : Sp := fun vs H Q E => ∃ (Hb : Hp) (ρ : List Addr) (Fr : Hp) (h : DH), Rel K Hb ρ Fr h H ∧ Prt K Hb ρ Fr Q w h
theorem which_ok {P : Program} {w : World} {K : PySem.W.Frag} {mg : Str → Option Value} {base : Heap} {k : Nat} {f : Addr} {x qual : Str} {st : Stmt} {fd : FuncData} {N ps : List Str} {D : Addr} {d : Addr → DS} {v : DV} (F : L2.Fun K x qual st f fd) (S : FnScope N ps (defScope st)) (h1 : ps.length = 1)
    (hd : ∀ a h, d a (.val (.con (.ref a)) :: List.replicate (N.length - 1) .un) h = .ok (.ret v) h)
    (body : ∀ (cdv : Value) (A : Around) (outer : List Env) (s : Shared) (H : Hp) (E : XK) (p : Addr × Obj), Zc (.ref D) none p.2 → (∃ vs, p.2.data = .fields vs) → L2H.RoomH k (A.deeper (envOfC qual (defScope st) s.heap.objs.size f cdv)) →
      SSs (L2H.cxH (L2.CX P w) P w K mg base N qual (defScope st) f cdv A outer s H E p) E (defBody st) (d p.1)) :
    FnW P w K mg base (k + 1) f fd ps D (spV K v) := by
  refine fn_which F S h1 fun cdv A outer s H Q E p hz hf room spec => ⟨_, body cdv A outer s H E p hz hf room, ?_⟩
  obtain ⟨Hb, ρ, Fr, h, R, k⟩ := spec
  have sl : Slots K Hb ρ Fr Fr (.val (.con (.ref p.1)) :: List.replicate (N.length - 1) .un) (L2.start N [.ref p.1]) := slots_start (ws := [.con (.ref p.1)]) (.cons (.per (.con _)) .nil)
  refine ⟨Hb, ρ, Fr, Fr, _, h, R, sl, ?_⟩
  rw [hd p.1 h]
  exact k
theorem pe_which {X : Cx} {k : Nat} {f D a : Addr} {oe : Obj} {fd : FuncData} {ps : List Str} {sp : Addr → Sp} {E : L2.St → XK} {x : Str} {q pos : Pos} {e : Expr} {t : TA} (F : FnW X.prog X.w X.K X.mg X.base k f fd ps D sp) (hr : L2H.RoomH k X.A) (hp : (a, oe) ∈ X.pn) (hz : Zc (.ref D) none oe) (hf : ∃ vs, oe.data = .fields vs)
    (hg : Gl X x) (hm : X.mg x = some (.ref f)) (hk : PySem.W.keepIn X.K (.ref f) = true) (hb : Binds X.K fd ps []) (hx : ∀ σ, PassesAt (L2.CX X.prog X.w) X σ (E σ)) (ha : PA X [e] t) (hdb : (x == ("__debug__" : Str)) = false := by decide)
    (he : starEach [e] X.env = [(false, eval e X.env)] := by rfl) :
    PE X (.Call (.Name x q) [e] [] pos) (fun σ H Q => t σ H fun vs H1 => vs = [.ref a] ∧ sp a [.ref a] H1 Q (E σ)) := by
  refine ⟨fun pins s σ H Q I h => wpAny_Call_Name_kw (ld_glob I hg hm (PySem.W.callWith_K (h₀ := X.base) I.ok.mod.kin hk (thn (ha.run pos pins s σ H _ I h) fun us s1 z => ?_) he rfl) hdb)⟩
  obtain ⟨vs, H1, I1, r, hv, y⟩ := z
  subst hv
  refine ⟨I1.kIn, ?_⟩
  have P1 := I1.pin (a, oe) (List.mem_append_left _ hp)
  have pin : L2H.PinOk X.stack H1 s1 (a, oe) := ⟨P1.1, P1.2.1, fun hm => by
    rcases List.mem_cons.mp (I1.stkSub a hm) with z | z
    · exact P1.2.2.1 z
    · exact P1.2.2.2.1 z, P1.2.2.2.2⟩
  have l1 : us.length = (ps ++ ([] : List Str)).length := by rw [← r.length, List.append_nil, F.one]; rfl
  have b := hb s1 us I1.kIn (by simpa using l1)
  rw [List.append_nil] at b
  refine wpAny_call (codeAny_mono (F.run X.A X.stack s1 H1 ⟨us, []⟩ us Q (E σ) (a, oe) hr hz hf pin I1.env0 b r y) fun r s2 z => ?_)
  match r, z with
  | .error e, z => exact hx σ pins H1 s1 e s2 I1 z
  | .ok (.ret u), z => exact I1.after z
  | .ok .next, z => exact z.elim
  | .ok .brk, z => exact z.elim
  | .ok .cont, z => exact z.elim
end DL
namespace DL
open PySem PySem.Spec PyProof.Rows L2
def dTry (i : Nat) (tb : List (Str × DV)) (d : DE) : DS := fun σ h => match d σ h with
  | .ok v h1 => chk (held v) (.ok (.ret v) h1)
  | .exc c h1 => match tb.lookup c with
    | some w => chk (decide (i < σ.length)) (.ok (.ret w) h1)
    | none => .bad
  | .bad => .bad
structure Tells (P : Program) (w : World) (K : PySem.W.Frag) (mg : Str → Option Value) (base : Heap) (k : Nat) (x : Str) (B : Addr) (c : Str) (v : DV) : Prop where
  ex : ∃ (C f : Addr) (fd : FuncData) (ps : List Str), mg c = some (.ref C) ∧ PySem.W.exmOne K (.ref C) (.ref B) = some true ∧ FnW P w K mg base k f fd ps C (spV K v) ∧ mg x = some (.ref f) ∧ PySem.W.keepIn K (.ref f) = true ∧ L2.Binds K fd ps []
theorem roomH_suite {k : Nat} {X : Cx} (r : Room k X.A) (a : Addr) (pn : List (Addr × Obj)) : L2H.RoomH k (X.suite a pn).A := ⟨r.dp, r.un⟩
theorem lookup_mem {c : Str} {v : DV} : ∀ {tb : List (Str × DV)}, tb.lookup c = some v → (c, v) ∈ tb
  | [], e => by cases e
  | (k, u) :: tb, e => by
    rw [List.lookup_cons] at e
    cases hk : c == k with
    | true =>
      rw [hk] at e
      cases e
      rw [eq_of_beq hk]; exact List.mem_cons_self
    | false => rw [hk] at e; exact List.mem_cons_of_mem _ (lookup_mem e)
section
variable {X : Cx} {E : XK} {e : Expr} {d : DE}
theorem ss_try {k j i : Nat} {xc n wn : Str} {B : Addr} {tb : List (Str × DV)} {p1 np p2 p3 p4 p5 p6 pos : Pos} (hs : X.stack = X.env :: X.outer) (hf : X.env.frame = some X.env.locals) (hN : X.N.Nodup) (hi : X.N[i]? = some n) (hln : X.env.kindOf n = some .local) (hc : Names X xc (.ref B)) (tk : Takes X (fun c d _ H => E c d H))
    (hr : Room j X.A) (hj : k ≤ j) (hT : ∀ q ∈ tb, Tells X.prog X.w X.K X.mg X.base k wn B q.1 q.2) (hg : Gl X wn) (hdb : (wn == ("__debug__" : Str)) = false) (hn1 : (n == ("__debug__" : Str)) = false) (hn2 : (n == ("__classdict__" : Str)) = false)
    (he : ∀ (pn : List (Addr × Obj)) (xe : Value → Shared → Prop) (E' : L2.St → XK), (∀ σ, PassesAt (L2.CX X.prog X.w) (X.tr pn xe) σ (E' σ)) → SE (X.tr pn xe) E' e d) :
    SS X E (.Try [.Return (some e) p1] [.ExceptHandler (some (.Name xc np)) (some n) [.Return (some (.Call (.Name wn p2) [.Name n p3] [] p4)) p5] p6] [] [] pos) (dTry i tb d) := by
  refine (ps_try_as (i := i) (tb := fun W D σ H => tD X.K X.mg (WE W) d σ H D.rt) (ts := fun a cls dd D σ H => dd = none ∧ ∃ (c : Str) (v : DV), tb.lookup c = some v ∧ X.mg c = some cls ∧ σ[i]? = some (some (.ref a)) ∧ spV X.K v a [.ref a] H D.rt E0) hs hf hN hi hln hc tk ?_ ?_).weak ?_
  · intro W pn xe tk' _
    exact pss_one (ps_ret (he pn xe (WE W) (passAt (X := X.tr pn xe) tk')))
  · intro a oe cls dd pn hz hd
    refine ⟨fun pins s σ H D I h => ?_⟩
    obtain ⟨rfl, c, v, hl, hm, hsl, sp⟩ := h
    obtain ⟨C, f, fd, ps, e1, e2, F, e3, e4, e5⟩ := (hT (c, v) (lookup_mem hl)).ex
    have ec : cls = .ref C := by
      have e1' : X.mg c = some (.ref C) := e1
      rw [hm] at e1'
      exact Option.some.inj e1'
    subst ec
    have pv : PE (X.suite a ((a, oe) :: pn)) (.Name n p3) (tVar i) := pe_var (X := X.suite a ((a, oe) :: pn)) hi (.inl hln) hn1 hn2
    exact (pss_one (ps_ret (pe_which (X := X.suite a ((a, oe) :: pn)) (E := fun _ => E0) F (roomH_suite (hr.mono hj) a _) List.mem_cons_self hz hd hg e3 e4 e5 lets0 (pa_cons pv pa_nil) hdb))).run pins s σ H D I ⟨_, hsl, rfl, sp⟩
  · intro D s H ⟨Hb, ρ, F0, Fr, σ, h, R, x, k⟩
    refine ⟨Hb, ρ, F0, Fr, σ, h, R, x, ?_⟩
    unfold dTry at k
    cases ed : d σ h with
    | ok v h1 =>
      rw [ed] at k
      obtain ⟨hv, k⟩ := Rz.chk k
      exact fun Hb' ρ' H' u a b R' r' => k Hb' ρ' H' u a b (R'.weak x.fr) (r'.held hv)
    | exc c h1 =>
      rw [ed] at k
      have k : Rz (PFl X.K Hb ρ F0 D) (Pex X.K X.mg Hb ρ F0 E) (match tb.lookup c with | some w => chk (decide (i < σ.length)) (.ok (.ret w) h1) | none => .bad) := k
      cases el : tb.lookup c with
      | none => rw [el] at k; exact k.elim
      | some w =>
        rw [el] at k
        obtain ⟨hlt, k⟩ := Rz.chk k
        obtain ⟨C, f, fd, ps, e1, e2, _, _, _, _⟩ := (hT (c, w) (lookup_mem el)).ex
        refine ⟨.ref C, e1, fun Hb' ρ' H' a b R' => ⟨true, e2, fun _ t ht => ⟨rfl, c, w, el, e1, ?_, Hb', ρ', F0, h1, R'.weak x.fr, fun Hb2 ρ2 H2 u a2 b2 R2 r2 => k Hb2 ρ2 H2 u (a.trans a2) (b.trans b2) R2 r2⟩, fun z => nomatch z⟩⟩
        rw [List.getElem?_set_self (by rw [← x.len]; exact of_decide_eq_true hlt)]
    | bad => rw [ed] at k; exact k.elim
end
end DL
namespace DL
open PySem PySem.Spec PyProof.Rows L2
def gK (K : PySem.W.Frag) (D : Addr) : V → Option Bool
  | .ref A => PySem.W.kitOne K (.ref D) (.ref A)
  | .ty n => PySem.W.kitOne K (.ref D) (.type n)
  | _ => none
theorem gK_ok (K : PySem.W.Frag) (D : Addr) : BenOk K D (gK K D) := fun c b e => by
  cases c with
  | ref A => exact ⟨.ref A, fun u r => r, e⟩
  | ty n => exact ⟨.type n, fun u r => r, e⟩
  | _ => cases e
@[simp] theorem dOwnM_ap (i : Nat) (g : DV → List DV → Option DV) (da : DA) (σ : DSt) (h : DH) : dOwnM i g da σ h = chk (isL i σ h) ((da σ h).bind fun vs h1 => (ofO (one1 vs) h1).bind fun v h2 => (ofO (getO σ i) h2).bind fun ws h3 => ofO (g v ws) h3) := nrfl rfl
theorem gIsE_ap {a : Addr} {g : V → Option Bool} {c : V} {b : Bool} {h : DH} (e : g c = some b) : gIsE a g [.con (.ref a), .con c] h = some (.bl b) := by
  show (if a = a then (g c).map DV.bl else none) = _
  rw [if_pos rfl, e]; rfl
theorem dTry_ok {i : Nat} {tb : List (Str × DV)} {d : DE} {σ : DSt} {h h1 : DH} {v : DV} (e : d σ h = .ok v h1) (hv : held v = true) : dTry i tb d σ h = .ok (.ret v) h1 := by
  unfold dTry
  rw [e]
  show chk (held v) _ = _
  rw [hv]; rfl
theorem dTry_exc {i : Nat} {tb : List (Str × DV)} {d : DE} {σ : DSt} {h h1 : DH} {c : Str} {w : DV} (e : d σ h = .exc c h1) (ht : tb.lookup c = some w) (hi : i < σ.length) : dTry i tb d σ h = .ok (.ret w) h1 := by
  unfold dTry
  rw [e]
  show (match tb.lookup c with | some w => chk (decide (i < σ.length)) (Res.ok (Fl.ret w) h1) | none => Res.bad) = _
  rw [ht]
  show chk (decide (i < σ.length)) (Res.ok (Fl.ret w) h1) = _
  rw [decide_eq_true hi]; rfl
theorem goS {s1 s2 : DS} {σ σ' : DSt} {h h' : DH} {X : Res Fl} (h1 : s1 σ h = .ok (.next σ') h') (h2 : s2 σ' h' = X) : dSeq s1 s2 σ h = X := by
  rw [dSeq_ap, h1]
  exact h2
theorem kit_own {K : PySem.W.Frag} {D C : Addr} {b : Bool} (ht : PySem.W.typeIn K (.ref C) = some (.type "type")) (hd : PySem.W.hasDictIn K C = true) (hs : PySem.W.subIn K (.ref D) (.ref C) = some b) (hdd : PySem.W.subIn K (.ref D) (.ref D) = some true) : PySem.W.kitOne K (.ref D) (.ref C) = some b := by
  unfold PySem.W.kitOne
  by_cases e : (Value.ref D == Value.ref C) = true
  · rw [if_pos e]
    have e' : D = C := Value.ref.inj (beq_iff_eq.mp e)
    subst e'
    rw [hdd] at hs
    exact hs
  · rw [if_neg e]
    obtain ⟨cd, hc, _⟩ := PySem.W.any_some hd
    show (if ((PySem.W.clsIn K C).isSome && PySem.W.typeIn K (.ref C) == some (.type "type")) = true then PySem.W.subIn K (.ref D) (.ref C) else none) = some b
    rw [if_pos (by rw [hc, ht]; rfl)]
    exact hs
theorem kit_val {K : PySem.W.Frag} {D : Addr} (hs : PySem.W.subIn K (.ref D) (.type "ValueError") = some true) : PySem.W.kitOne K (.ref D) (.type "ValueError") = some true := by
  unfold PySem.W.kitOne
  rw [if_neg (by intro z; cases beq_iff_eq.mp z)]
  show (if PySem.W.kitMeta "ValueError" = true then PySem.W.subIn K (.ref D) (.type "ValueError") else none) = some true
  rw [if_pos (by decide +kernel)]
  exact hs
end DL
namespace DL
open PySem PySem.Spec PyProof.Rows L2
def dRaiseF (c : Str) (i : Nat) : DS := fun σ h => match σ[i]? with
  | some (.val (.int j)) => if 0 ≤ j ∧ j ≤ 9 then .exc c h else .bad
  | _ => .bad
theorem digit_small (m : Str) (hm : m.length ≤ 1000) (j : Int) (h : 0 ≤ j ∧ j ≤ 9) : j.natAbs.log2 < 1920 ∧ (Str.empty ++ m).length ≤ sizeLine ∧ (Str.empty ++ m ++ (toString j : Str)).length ≤ sizeLine := by
  have e0 : (Str.empty ++ m).length = m.length := by rw [Str.length_append]; show 0 + _ = _; omega
  have hs : sizeLine = 2 ^ 24 := rfl
  have ht : (toString j : Str).length ≤ 10 := by
    rcases (show j = 0 ∨ j = 1 ∨ j = 2 ∨ j = 3 ∨ j = 4 ∨ j = 5 ∨ j = 6 ∨ j = 7 ∨ j = 8 ∨ j = 9 by omega) with rfl | rfl | rfl | rfl | rfl | rfl | rfl | rfl | rfl | rfl <;> decide +kernel
  refine ⟨?_, by rw [e0]; omega, by rw [Str.length_append, e0]; omega⟩
  rcases (show j = 0 ∨ j = 1 ∨ j = 2 ∨ j = 3 ∨ j = 4 ∨ j = 5 ∨ j = 6 ∨ j = 7 ∨ j = 8 ∨ j = 9 by omega) with rfl | rfl | rfl | rfl | rfl | rfl | rfl | rfl | rfl | rfl <;> decide +kernel
section
variable {X : Cx} {E : XK}
theorem ss_raiseF {x m : Str} {C : Addr} {i : Nat} {e : Expr} {pos : Pos} (hc : X.calm = true) (tk : Takes X (fun c d _ H => E c d H))
    (he : PMk X e (fun σ H Q => (fun (σ : L2.St) (H : Hp) (Q : VK) => tJs [tC (.str m), tFmt (tVar i)] Str.empty σ H fun out H1 => Q (.str out) H1) σ H fun _ H1 => Q (.ref C) none H1)) (gC : X.mg x = some (.ref C)) (hm : m.length ≤ 1000) :
    SS X E (.Raise (some e) none pos) (dRaiseF x i) :=
  (ps_raise hc tk he).weak fun D s H ⟨Hb, ρ, F0, Fr, σ, h, R, x, k⟩ => by
  unfold dRaiseF at k
  cases eq : σ[i]? with
  | none => rw [eq] at k; exact k.elim
  | some q =>
    rw [eq] at k
    have y := x.at_ i q eq
    cases q with
    | val w =>
      cases w with
      | int j =>
        obtain ⟨v, e1, r⟩ := y
        have ev : v = .int j := by
          cases r with
          | per r => cases r; rfl
        subst ev
        by_cases hj : 0 ≤ j ∧ j ≤ 9
        · have k : Rz (PFl X.K Hb ρ F0 D) (Pex X.K X.mg Hb ρ F0 E) (if 0 ≤ j ∧ j ≤ 9 then .exc _ h else .bad) := k
          rw [if_pos hj] at k
          obtain ⟨u, eu, k⟩ := k
          rw [gC] at eu
          cases eu
          obtain ⟨l1, l2, l3⟩ := digit_small m hm j hj
          exact ⟨m, rfl, l2, .int j, e1, .inr ⟨j, rfl, l1, _, rfl, l3, k Hb ρ H (Same.refl _) (List.prefix_refl _) (R.weak x.fr)⟩⟩
        · have k : Rz (PFl X.K Hb ρ F0 D) (Pex X.K X.mg Hb ρ F0 E) (if 0 ≤ j ∧ j ≤ 9 then .exc _ h else .bad) := k
          rw [if_neg hj] at k
          exact k.elim
      | _ => exact k.elim
    | _ => exact k.elim
end
@[simp] theorem dRaiseF_ap (c : Str) (i : Nat) (σ : DSt) (h : DH) : dRaiseF c i σ h = match σ[i]? with
  | some (.val (.int j)) => if 0 ≤ j ∧ j ≤ 9 then .exc c h else .bad
  | _ => .bad := nrfl rfl
end DL
namespace CpComb
open PySem PySem.Spec
open Sem (wp)
theorem mro_comb : mroOf (.type "itertools.combinations") = pure [.type "itertools.combinations", .type "object"] := by rw [mroOf_type]; kernel_rfl
theorem lookup_comb_new : typeLookup (.type "itertools.combinations") "__new__" = pure (some (.builtin "itertools.combinations.__new__")) := by rw [typeLookup_type, builtinLookup_eq_fast]; kernel_rfl
theorem slot_comb_init : Slot "itertools.combinations" "__init__" "object.__init__" :=
  .of (owner := "object") (n := "__init__") (by rw [typeLookup_type, builtinLookup_eq_fast]; kernel_rfl) (by decide +kernel) (by decide +kernel) (by decide +kernel)
    (by first | exact .inl (by decide +kernel) | exact .inr (by decide +kernel)) (by rw [isSubtype_type]; kernel_rfl)
theorem sub_comb : isSubtype (.type "itertools.combinations") (.type "itertools.combinations") = pure true := by rw [isSubtype_type]; kernel_rfl
theorem called_comb : TypeCalled "itertools.combinations" "itertools.combinations.__new__" "object.__init__" :=
  ⟨by decide +kernel, by decide +kernel, ⟨_, _, mro_comb⟩, madeBy_type mro_comb lookup_comb_new (by decide +kernel), by decide +kernel, sub_comb, slot_comb_init⟩
theorem typeCall_comb_2 (a b : Value) : checkTypeCall "itertools.combinations" ⟨[a, b], []⟩ = pure () := by kernel_rfl
theorem newCall_comb_2 (a b : Value) : checkBuiltinCall "itertools.combinations.__new__" ⟨[.type "itertools.combinations", a, b], []⟩ = pure () := by kernel_rfl
theorem entry_comb_new : entryFor table "itertools.combinations.__new__" = some Builtin.«itertools.combinations.__new__» := entryFor_of_tree (by kernel_rfl)
theorem slot_comb_iter : Slot "itertools.combinations" "__iter__" "itertools.combinations.__iter__" :=
  .of (owner := "itertools.combinations") (n := "__iter__") (by rw [typeLookup_type, builtinLookup_eq_fast]; kernel_rfl) (by decide +kernel) (by decide +kernel) (by decide +kernel)
    (by first | exact .inl (by decide +kernel) | exact .inr (by decide +kernel)) sub_comb
theorem slot_comb_next : Slot "itertools.combinations" "__next__" "itertools.combinations.__next__" :=
  .of (owner := "itertools.combinations") (n := "__next__") (by rw [typeLookup_type, builtinLookup_eq_fast]; kernel_rfl) (by decide +kernel) (by decide +kernel) (by decide +kernel)
    (by first | exact .inl (by decide +kernel) | exact .inr (by decide +kernel)) sub_comb
theorem entry_comb_iter : entryFor table "itertools.combinations.__iter__" = some Builtin.«dict_keyiterator.__iter__» :=
  entryFor_alias (id' := "dict_keyiterator.__iter__") (by kernel_rfl) (by first | rfl | decide +kernel | (unfold String.splitOn; simp +decide [String.splitOnAux])) (by decide +kernel) (by kernel_rfl)
theorem entry_comb_next : entryFor table "itertools.combinations.__next__" = some Builtin.«itertools.combinations.__next__» := entryFor_of_tree (by kernel_rfl)
theorem owner_comb : Manifest.owners.lookup (String.ofList ['s', 'n', 'o', 'i', 't', 'a', 'n', 'i', 'b', 'm', 'o', 'c', '.', 's', 'l', 'o', 'o', 't', 'r', 'e', 't', 'i'].reverse) = some Manifest.sig_itertools_combinations := by kernel_rfl
theorem args_comb_iter (a : Value) : argsOk "itertools.combinations.__iter__" ⟨[a], []⟩ := by
  unfold argsOk; rw [signature?_of (id := "itertools.combinations.__iter__") (n := ['_', '_', 'r', 'e', 't', 'i', '_', '_']) (o := ['s', 'n', 'o', 'i', 't', 'a', 'n', 'i', 'b', 'm', 'o', 'c', '.', 's', 'l', 'o', 'o', 't', 'r', 'e', 't', 'i']) (by kernel_rfl) owner_comb]; kernel_rfl
theorem args_comb_next (a : Value) : argsOk "itertools.combinations.__next__" ⟨[a], []⟩ := by
  unfold argsOk; rw [signature?_of (id := "itertools.combinations.__next__") (n := ['_', '_', 't', 'x', 'e', 'n', '_', '_']) (o := ['s', 'n', 'o', 'i', 't', 'a', 'n', 'i', 'b', 'm', 'o', 'c', '.', 's', 'l', 'o', 'o', 't', 'r', 'e', 't', 'i']) (by kernel_rfl) owner_comb]; kernel_rfl
theorem noDict_comb : typeHasDict (.type "itertools.combinations") = false := by decide +kernel
def nextC (n : Nat) (ks : List Nat) : Option (List Nat) :=
  match (List.range ks.length).reverse.find? fun i => ks.getD i 0 != i + n - ks.length with
  | none => none
  | some i => some (ks.take i ++ (List.range (ks.length - i)).map (ks.getD i 0 + 1 + ·))
abbrev IsComb (h : Heap) (it pool : Addr) (st : Int) (last : Value) (ks : List Nat) : Prop :=
  h.get? it = some { cls := .type "itertools.combinations", dict := none, data := .fields (([.ref pool, rawInt st, last] ++ ks.map fun (i : Nat) => rawInt i).toArray), slots := #[] }
end CpComb
namespace CpComb
open PySem PySem.Spec
open Sem (wp)
section
variable {prog : Program} {w : World} {A : Around} {E : Value → Shared → Prop} {s : Shared} {it pool : Addr} {last : Value} {ks : List Nat} {items : Array Value}
theorem iter_comb {st : Int} {Q : Value → Shared → Prop} (hit : IsComb s.heap it pool st last ks) (h : Q (.ref it) s) : wpAny (model prog w) A (pyIter (.ref it)) Q E s := by
  have hT : s.TypeIs (.ref it) "itertools.combinations" := ⟨_, hit, rfl⟩
  refine wpAny_pyIter_slot hT slot_comb_iter (wpAny_call_entry slot_comb_iter hT entry_comb_iter ?_ (args_comb_iter _))
  show wpAny _ _ (ret (.ref it)) _ _ s
  exact wpAny_pure ⟨_, rfl, "itertools.combinations", _, hT, slot_comb_next.lookup, h⟩
theorem raw_toNat (ks : List Nat) : ((ks.map fun (i : Nat) => rawInt i).map fun v => match v with | .int n _ => n.toNat | _ => 0) = ks := by
  rw [List.map_map]
  conv => rhs; rw [← List.map_id ks]
  exact List.map_congr_left fun a _ => rfl
theorem numbers {st : Int} {Q : List Nat → Shared → Prop} (hit : IsComb s.heap it pool st last ks) (h : Q ks s) : wpAny (model prog w) A (Builtin.Itertools.itNumbersFrom (.ref it) 3) Q E s := by
  show wpAny _ _ (load it >>= _) _ _ s
  refine wpAny_bind (wpAny_load hit ?_)
  refine wpAny_pure ?_
  have e := raw_toNat ks
  exact e.symm ▸ h
def chosen (items : Array Value) (ks : List Nat) : Obj := { cls := .type "tuple", dict := none, data := .seq (ks.map fun i => items.getD i .none).toArray, slots := #[] }
theorem fields_set1 {st : Int} {x : Value} : (([.ref pool, rawInt st, last] ++ ks.map fun (i : Nat) => rawInt i).toArray).setIfInBounds 1 x = ([.ref pool, x, last] ++ ks.map fun (i : Nat) => rawInt i).toArray := by simp
theorem fields_set2 {st : Value} {x : Value} : (([.ref pool, st, last] ++ ks.map fun (i : Nat) => rawInt i).toArray).setIfInBounds 2 x = ([.ref pool, st, x] ++ ks.map fun (i : Nat) => rawInt i).toArray := by simp
theorem fields_laid {st : Value} {ns : List Nat} : (([.ref pool, st, last] ++ ks.map fun (i : Nat) => rawInt i).toArray).extract 0 3 ++ (ns.map fun (n : Nat) => rawInt n).toArray = ([.ref pool, st, last] ++ ns.map fun (i : Nat) => rawInt i).toArray := by simp

theorem items_pool {Q : Array Value → Shared → Prop} (hp : s.heap.IsTuple pool items) (h : Q items s) : wpAny (model prog w) A (Builtin.Itertools.itPoolItems (.ref pool)) Q E s := by
  obtain ⟨po, hpo, hpc, n, hpd⟩ := hp
  show wpAny _ _ (seqItems? (.ref pool) >>= _) _ _ s
  exact wpAny_bind (wpAny_seqItems hpo hpd (wpAny_pure h))
theorem hand_out {Q : Fin → Shared → Prop} {st : Value} (hit : s.heap.get? it = some { cls := .type "itertools.combinations", dict := none, data := .fields (([.ref pool, st, last] ++ ks.map fun (i : Nat) => rawInt i).toArray), slots := #[] })
    (hp : s.heap.IsTuple pool items) {ns : List Nat} (hl : ns.length ≤ 1000)
    (hQ : ∀ h', h'.get? it = some { cls := .type "itertools.combinations", dict := none, data := .fields (([.ref pool, st, .ref s.heap.objs.size] ++ ks.map fun (i : Nat) => rawInt i).toArray), slots := #[] } → h'.get? s.heap.objs.size = some (chosen items ns) →
      (∀ b o, b ≠ it → s.heap.get? b = some o → h'.get? b = some o) → Q (.done (.ret (.ref s.heap.objs.size))) { s with heap := h' }) :
    wpAny (model prog w) A (do
      let result ← (do let items ← Builtin.Itertools.itPoolItems (.ref pool); newTuple (ns.map fun i => items.getD i .none))
      let before ← field (.ref it) 2
      setField (.ref it) 2 result
      letGo [before] [result]
      ret result) Q E s := by
  refine wpAny_bind (wpAny_bind (items_pool hp ?_))
  have hs : (ns.map fun i => items.getD i .none).length ≤ sizeLine := by rw [List.length_map, sizeLine_eq]; omega
  refine wpAny_newTuple ?_ hs
  have lt := Heap.lt_size hit
  have hit1 := Heap.get?_push_of_some (chosen items ns) hit
  refine wpAny_bind (wpAny_field hit1 rfl (x := last) rfl ?_)
  refine wpAny_bind (wpAny_setField_rec hit1 (by simp) fun h' e sb => ?_)
  refine wpAny_bind (wpAny_letGo (wpAny_pure (hQ h' ?_ ?_ ?_)))
  · rw [fields_set2] at e
    exact e
  · exact (sb.2 _ (Nat.ne_of_gt lt)).trans (Heap.get?_push_size _ rfl)
  · exact fun b o hb q => (sb.2 b hb).trans (Heap.get?_push_of_some _ q)

theorem comb_first {Q : Option Value → Shared → Prop} (hit : IsComb s.heap it pool 0 last ks) (hp : s.heap.IsTuple pool items) (hne : pool ≠ it) (hl : ks.length ≤ 1000)
    (hQ : ∀ h', IsComb h' it pool 1 (.ref s.heap.objs.size) ks → h'.get? s.heap.objs.size = some (chosen items ks) → (∀ b o, b ≠ it → s.heap.get? b = some o → h'.get? b = some o) → Q (some (.ref s.heap.objs.size)) { s with heap := h' }) :
    wpAny (model prog w) A (pyNext (.ref it)) Q E s := by
  have hT : s.TypeIs (.ref it) "itertools.combinations" := ⟨_, hit, rfl⟩
  unfold pyNext
  refine wpAny_bind (wpAny_attempt (wpAny_callSpecial?_slot (name := Str.ofString "__next__") hT slot_comb_next (wpAny_call_entry slot_comb_next hT entry_comb_next ?_ (args_comb_next _))))
  show wpAny _ _ (field (.ref it) 0 >>= _) _ _ s
  refine wpAny_bind (wpAny_field hit rfl (x := .ref pool) rfl ?_)
  refine wpAny_bind (numbers hit ?_)
  show wpAny _ _ ((field (.ref it) 1 >>= _) >>= _) _ _ s
  refine wpAny_bind (wpAny_bind (wpAny_field hit rfl (x := rawInt 0) rfl (wpAny_pure ?_)))
  show wpAny _ _ (setField (.ref it) 1 (rawInt 1) >>= _) _ _ s
  refine wpAny_bind (wpAny_setField_rec hit (by simp) fun h1 e sb => ?_)
  rw [fields_set1] at e
  have hp1 : h1.IsTuple pool items := by
    obtain ⟨po, a, b⟩ := hp
    exact ⟨po, (sb.2 _ hne).trans a, b⟩
  have sz : h1.objs.size = s.heap.objs.size := sb.1
  refine hand_out (s := { s with heap := h1 }) e hp1 (ns := ks) hl fun h2 e2 c2 k2 => ?_
  rw [show ({ s with heap := h1 } : Shared).heap.objs.size = s.heap.objs.size from sz] at e2 c2 ⊢
  exact ⟨_, rfl, wpAny_pure (hQ h2 e2 c2 fun b o hb q => k2 b o hb ((sb.2 b hb).trans q))⟩
theorem comb_more {Q : Option Value → Shared → Prop} {ns : List Nat} (hit : IsComb s.heap it pool 1 last ks) (hp : s.heap.IsTuple pool items) (hne : pool ≠ it) (hx : nextC items.size ks = some ns) (hl : ns.length ≤ 1000)
    (hQ : ∀ h', IsComb h' it pool 1 (.ref s.heap.objs.size) ns → h'.get? s.heap.objs.size = some (chosen items ns) → (∀ b o, b ≠ it → s.heap.get? b = some o → h'.get? b = some o) → Q (some (.ref s.heap.objs.size)) { s with heap := h' }) :
    wpAny (model prog w) A (pyNext (.ref it)) Q E s := by
  have hT : s.TypeIs (.ref it) "itertools.combinations" := ⟨_, hit, rfl⟩
  unfold pyNext
  refine wpAny_bind (wpAny_attempt (wpAny_callSpecial?_slot (name := Str.ofString "__next__") hT slot_comb_next (wpAny_call_entry slot_comb_next hT entry_comb_next ?_ (args_comb_next _))))
  show wpAny _ _ (field (.ref it) 0 >>= _) _ _ s
  refine wpAny_bind (wpAny_field hit rfl (x := .ref pool) rfl ?_)
  refine wpAny_bind (numbers hit ?_)
  show wpAny _ _ ((field (.ref it) 1 >>= _) >>= _) _ _ s
  refine wpAny_bind (wpAny_bind (wpAny_field hit rfl (x := rawInt 1) rfl (wpAny_pure ?_)))
  show wpAny _ _ (Builtin.Itertools.itPoolItems (.ref pool) >>= fun items => match nextC items.size ks with
    | some next => Builtin.Itertools.itSetNumbersFrom (.ref it) 3 next >>= _
    | none => _) _ _ s
  refine wpAny_bind (items_pool hp ?_)
  rw [hx]
  show wpAny _ _ (updateFields it (fun fs => fs.extract 0 3 ++ (ns.map fun (n : Nat) => rawInt n).toArray) >>= _) _ _ s
  refine wpAny_bind (wpAny_updateFields hit rfl ?_ ?_)
  · have e := Heap.get?_update_self (Obj.mapFields fun fs => fs.extract 0 3 ++ (ns.map fun (n : Nat) => rawInt n).toArray) hit rfl
    have e1 : (s.heap.update it (Obj.mapFields fun fs => fs.extract 0 3 ++ (ns.map fun (n : Nat) => rawInt n).toArray)).get? it = some { cls := .type "itertools.combinations", dict := none, data := .fields (([.ref pool, rawInt 1, last] ++ ns.map fun (i : Nat) => rawInt i).toArray), slots := #[] } := by
      rw [← fields_laid (pool := pool) (st := rawInt 1) (last := last) (ks := ks) (ns := ns)]
      exact e
    have sb := Heap.SameBut.update (h := s.heap) (a := it) (f := Obj.mapFields fun fs => fs.extract 0 3 ++ (ns.map fun (n : Nat) => rawInt n).toArray)
    generalize hh1 : s.heap.update it (Obj.mapFields fun fs => fs.extract 0 3 ++ (ns.map fun (n : Nat) => rawInt n).toArray) = h1 at e1 sb
    have hp1 : h1.IsTuple pool items := by
      obtain ⟨po, a, b⟩ := hp
      exact ⟨po, (sb.2 _ hne).trans a, b⟩
    have sz : h1.objs.size = s.heap.objs.size := sb.1
    refine hand_out (s := { s with heap := h1 }) e1 hp1 (ns := ns) hl fun h2 e2 c2 k2 => ?_
    rw [show ({ s with heap := h1 } : Shared).heap.objs.size = s.heap.objs.size from sz] at e2 c2 ⊢
    exact ⟨_, rfl, wpAny_pure (hQ h2 e2 c2 fun b o hb q => k2 b o hb ((sb.2 b hb).trans q))⟩
  · rw [fields_laid]
    simp only [List.size_toArray, List.length_append, List.length_map, List.length_cons, List.length_nil]
    rw [sizeLine_eq]
    omega
theorem comb_end {Q : Option Value → Shared → Prop} (hh : A.handled = none) (hit : IsComb s.heap it pool 1 last ks) (hp : s.heap.IsTuple pool items) (hx : nextC items.size ks = none)
    (hQ : ∀ h', (∀ b o, b ≠ it → s.heap.get? b = some o → h'.get? b = some o) → Q none { s with heap := h' }) :
    wpAny (model prog w) A (pyNext (.ref it)) Q E s := by
  have hT : s.TypeIs (.ref it) "itertools.combinations" := ⟨_, hit, rfl⟩
  unfold pyNext
  refine wpAny_bind (wpAny_attempt (wpAny_callSpecial?_slot (name := Str.ofString "__next__") hT slot_comb_next (wpAny_call_entry slot_comb_next hT entry_comb_next ?_ (args_comb_next _))))
  show wpAny _ _ (field (.ref it) 0 >>= _) _ _ s
  refine wpAny_bind (wpAny_field hit rfl (x := .ref pool) rfl ?_)
  refine wpAny_bind (numbers hit ?_)
  show wpAny _ _ ((field (.ref it) 1 >>= _) >>= _) _ _ s
  refine wpAny_bind (wpAny_bind (wpAny_field hit rfl (x := rawInt 1) rfl (wpAny_pure ?_)))
  show wpAny _ _ (Builtin.Itertools.itPoolItems (.ref pool) >>= fun items => match nextC items.size ks with
    | some next => _
    | none => setField (.ref it) 1 (rawInt 2) >>= _) _ _ s
  refine wpAny_bind (items_pool hp ?_)
  rw [hx]
  show wpAny _ _ (setField (.ref it) 1 (rawInt 2) >>= _) _ _ s
  refine wpAny_bind (wpAny_setField_rec hit (by simp) fun h1 e sb => ?_)
  show wpAny _ _ (newExc (.type "StopIteration") [] >>= _) _ _ _
  refine wpAny_bind ?_
  simp only [newExc, newTuple]
  refine wpAny_bind (wpAny_newObj_type ?_ (by size_fits))
  refine wpAny_bind (m := firstArgMember _ _) (wpAny_of_eq (a := Value.none) (by first | rfl | (simp only [firstArgMember]; rfl)) ?_)
  refine wpAny_newObj_type ?_ (by size_fits)
  simp only [raiseNew]
  refine wpAny_bind (wpAny_handled ?_)
  first | rw [show A.in1.handled = none from hh] | rw [hh]
  refine wpAny_bind (wpAny_pure (wpAny_throw ?_))
  refine wpAny_bind (wpAny_isInstance (T := "StopIteration") (b := true) ⟨_, Heap.get?_push_size _ rfl, rfl⟩ isSubtype_stop ?_)
  exact wpAny_pure (hQ _ fun b o hb q => Heap.get?_push_of_some _ (Heap.get?_push_of_some _ ((sb.2 b hb).trans q)))
end
end CpComb
namespace CpComb
open PySem PySem.Spec L2
theorem plain_comb_new : plainId "itertools.combinations.__new__" = true := by decide +kernel
theorem class_rest {a b : Value} : Builtin.Itertools.itClassAndRest "combinations" ⟨[.type "itertools.combinations", a, b], []⟩ = pure (.type "itertools.combinations", [a, b]) := by
  have hsub := sub_comb
  unfold Builtin.Itertools.itClassAndRest
  kernel_rfl
theorem bound (a b : Value) : Builtin.Itertools.itBindNamed "combinations" ["iterable", "r"] 2 2 [a, b] [] = pure [some a, some b] := by
  kernel_rfl
section
variable {prog : Program} {w : World} {A : Around} {E : Value → Shared → Prop} {s : Shared} {r : Addr} {b k : Int} {t u v t' : Tok} {n : Nat}
theorem code_comb_new {Q₁ : Value → Shared → Prop} (hh : A.handled = none) (hr : IsRange s.heap r 0 b 1 t u v) (hsmall : Builtin.Range.small 0 b 1 = true) (hn : Builtin.Range.rangeSize 0 b 1 = n) (hlen : n ≤ 100) (k0 : 0 ≤ k) (kn : k ≤ n)
    (h : ∀ (h' : Heap) (tk : Nat) (acc : Array Value), (∀ b o, s.heap.get? b = some o → h'.get? b = some o) → ItemsOf (fun i v => ∃ t, v = .int (0 + i * 1) t) acc n →
      Q₁ (.ref (h'.objs.size + 1)) { s with heap := (h'.push { cls := .type "tuple", data := .seq acc }).push { cls := .type "itertools.combinations", dict := none, data := .fields (([.ref h'.objs.size, rawInt 0, .none] ++ (List.range k.toNat).map fun (i : Nat) => rawInt i).toArray), slots := #[] }, toks := tk }) :
    codeAny (model prog w) A (.call (.builtin "itertools.combinations.__new__") ⟨[.type "itertools.combinations", .ref r, .int k t'], []⟩) (wants Q₁ E) s := by
  refine codeAny_of_tree ?_
  show wpAny _ A.in1 (do checkBuiltinCall "itertools.combinations.__new__" ⟨[.type "itertools.combinations", .ref r, .int k t'], []⟩; again (.builtin "itertools.combinations.__new__" ⟨[.type "itertools.combinations", .ref r, .int k t'], []⟩)) _ _ s
  refine wpAny_bind (wpAny_of_eq (newCall_comb_2 _ _) (wpAny_pure ⟨plainId_quiet plain_comb_new _, codeAny_builtin entry_comb_new ?_⟩))
  rw [Around.under_plainId plain_comb_new _]
  have hsub := sub_comb
  have hd := noDict_comb
  have hTI : s.TypeIs (.ref r) "range" := ⟨_, hr, rfl⟩
  have hh1 : A.in1.handled = none := hh
  have c1 : ¬ ((decide (k < -(2 ^ 63 : Int)) || decide (k ≥ 2 ^ 63)) = true) := by
    rw [decide_eq_false (by omega), decide_eq_false (by omega)]
    decide
  have c2 : ¬ (k < 0) := by omega
  have c3 : ¬ (Builtin.Itertools.itTooMany k = true) := by
    show ¬ (decide (k > 2 ^ 20) = true)
    rw [decide_eq_false (by omega)]
    decide
  unfold Builtin.«itertools.combinations.__new__»
  show wpAny _ _ ((Builtin.Itertools.itClassAndRest "combinations" _ >>= _) >>= _) _ _ s
  refine wpAny_bind (wpAny_bind ?_)
  refine wpAny_of_eq class_rest ?_
  show wpAny _ _ ((Builtin.Itertools.itBindNamed "combinations" ["iterable", "r"] 2 2 [.ref r, .int k t'] [] >>= _)) _ _ s
  refine wpAny_bind (wpAny_of_eq (bound _ _) ?_)
  show wpAny _ _ ((Builtin.Itertools.itSsizeArg (.int k t') >>= _)) _ _ s
  refine wpAny_bind ?_
  show wpAny _ _ (asIndex (.int k t') >>= _) _ _ s
  refine wpAny_bind (wpAny_of_eq (a := k) (by rfl) ?_)
  show wpAny _ _ (if (decide (k < -(2 ^ 63 : Int)) || decide (k ≥ 2 ^ 63)) = true then _ else _) _ _ s
  rw [if_neg c1]
  refine wpAny_pure ?_
  show wpAny _ _ (collect (.ref r) >>= _) _ _ s
  refine wpAny_bind (collect_range hh1 hr hsmall hn (by omega) fun h' tk acc hk hi => ?_)
  show wpAny _ _ (if k < 0 then _ else _) _ _ _
  rw [if_neg c2]
  show wpAny _ _ (if Builtin.Itertools.itTooMany k = true then _ else _) _ _ _
  rw [if_neg c3]
  show wpAny _ _ (newTuple acc.toList >>= _) _ _ _
  have ln : acc.toList.length = n := by simpa using hi.1
  refine wpAny_bind (wpAny_newTuple ?_ (by rw [ln, sizeLine_eq]; omega))
  refine wpAny_pure ?_
  show wpAny _ _ (Builtin.Itertools.itNewRecord (.type "itertools.combinations") ([.ref _, rawInt (if k.toNat > acc.toList.length then 2 else 0), .none] ++ (List.range k.toNat).map fun (i : Nat) => rawInt i) >>= _) _ _ _
  have e0 : (if k.toNat > acc.toList.length then (2 : Int) else 0) = 0 := by rw [if_neg (by rw [ln]; omega)]
  rw [e0]
  refine wpAny_bind ?_
  unfold Builtin.Itertools.itNewRecord
  rw [hd, if_pos (by rfl)]
  refine wpAny_newObj_type ?_ ?_
  · refine wpAny_pure ?_
    have q := h h' tk acc hk hi
    have e1 : acc.toList.toArray = acc := by simp
    have e2 := Heap.size_push h' { cls := .type "tuple", data := .seq acc }
    rw [← e2] at q
    simp only [e1]
    exact q
  · show Array.size _ ≤ _
    simp only [List.size_toArray, List.length_append, List.length_map, List.length_cons, List.length_nil, List.length_range]
    rw [sizeLine_eq]
    omega
theorem call_comb {Q : Value → Shared → Prop} (hh : A.handled = none) (hr : IsRange s.heap r 0 b 1 t u v) (hsmall : Builtin.Range.small 0 b 1 = true) (hn : Builtin.Range.rangeSize 0 b 1 = n) (hlen : n ≤ 100) (k0 : 0 ≤ k) (kn : k ≤ n)
    (hQ : ∀ (h' : Heap) (tk : Nat) (acc : Array Value), (∀ b o, s.heap.get? b = some o → h'.get? b = some o) → ItemsOf (fun i v => ∃ t, v = .int (0 + i * 1) t) acc n →
      Q (.ref (h'.objs.size + 1)) { s with heap := (h'.push { cls := .type "tuple", data := .seq acc }).push { cls := .type "itertools.combinations", dict := none, data := .fields (([.ref h'.objs.size, rawInt 0, .none] ++ (List.range k.toNat).map fun (i : Nat) => rawInt i).toArray), slots := #[] }, toks := tk }) :
    wpAny (model prog w) A (call (.type "itertools.combinations") [.ref r, .int k t']) Q E s := by
  have key : ∀ (h' : Heap) (acc : Array Value), ((h'.push { cls := .type "tuple", data := .seq acc }).push { cls := .type "itertools.combinations", dict := none, data := .fields (([.ref h'.objs.size, rawInt 0, .none] ++ (List.range k.toNat).map fun (i : Nat) => rawInt i).toArray), slots := #[] }).get? (h'.objs.size + 1) = some { cls := .type "itertools.combinations", dict := none, data := .fields (([.ref h'.objs.size, rawInt 0, .none] ++ (List.range k.toNat).map fun (i : Nat) => rawInt i).toArray), slots := #[] } := fun h' acc => by
    have e := Heap.get?_push_size (h'.push { cls := .type "tuple", data := .seq acc }) (o := { cls := .type "itertools.combinations", dict := none, data := .fields (([.ref h'.objs.size, rawInt 0, .none] ++ (List.range k.toNat).map fun (i : Nat) => rawInt i).toArray), slots := #[] }) rfl
    rw [Heap.size_push] at e
    exact e
  refine callType_codes (Q₁ := fun obj s₁ => s₁.TypeIs obj "itertools.combinations" ∧ Q obj s₁) called_comb (typeCall_comb_2 _ _) F.entry_object_init
    (code_comb_new (A := A.in1) hh hr hsmall hn hlen k0 kn fun h' tk acc hk hacc => ⟨⟨_, key h' acc, rfl⟩, hQ h' tk acc hk hacc⟩) fun obj s₁ h₁ => ?_
  exact ⟨h₁.1, F.args_object_init_3 obj _ _, object_init_meets called_comb.init.lookup called_comb.made (by decide) prog w A.in1 _ s₁ ⟨h₁.1, rfl, h₁.2⟩⟩
end
end CpComb
namespace CpComb
open PySem PySem.Spec PyProof.Rows L2
def chainB (n : Nat) : List (List Nat) → Bool
  | [] => false
  | [a] => nextC n a == none
  | a :: b :: t => nextC n a == some b && chainB n (b :: t)
structure CombOk (n k : Nat) (L : List (List Nat)) : Prop where
  head : L[0]? = some (List.range k)
  step : ∀ i a b, L[i]? = some a → L[i + 1]? = some b → nextC n a = some b
  last : ∀ a, L[L.length - 1]? = some a → nextC n a = none
  lt : ∀ a ∈ L, ∀ x ∈ a, x < n
  len : ∀ a ∈ L, a.length ≤ 1000
theorem chain_step {n : Nat} : ∀ {L : List (List Nat)} {i : Nat} {a b : List Nat}, chainB n L = true → L[i]? = some a → L[i + 1]? = some b → nextC n a = some b
  | [], _, _, _, h, _, _ => by cases h
  | [x], i, a, b, h, e, e' => by simp at e'
  | x :: y :: t, 0, a, b, h, e, e' => by
    simp only [chainB, Bool.and_eq_true, beq_iff_eq] at h
    simp at e e'
    rw [← e, ← e']; exact h.1
  | x :: y :: t, i + 1, a, b, h, e, e' => by
    simp only [chainB, Bool.and_eq_true] at h
    exact chain_step (L := y :: t) (i := i) h.2 (by simpa using e) (by simpa using e')
theorem chain_last {n : Nat} : ∀ {L : List (List Nat)} {a : List Nat}, chainB n L = true → L[L.length - 1]? = some a → nextC n a = none
  | [], _, h, _ => by cases h
  | [x], a, h, e => by
    simp only [chainB, beq_iff_eq] at h
    simp at e
    rw [← e]; exact h
  | x :: y :: t, a, h, e => by
    simp only [chainB, Bool.and_eq_true] at h
    exact chain_last (L := y :: t) h.2 (by simpa using e)
def okB (n k : Nat) (L : List (List Nat)) : Bool := chainB n L && (L[0]? == some (List.range k)) && L.all fun a => a.all (fun x => decide (x < n)) && decide (a.length ≤ 1000)
theorem combOk_of {n k : Nat} {L : List (List Nat)} (h : okB n k L = true) : CombOk n k L := by
  simp only [okB, Bool.and_eq_true, beq_iff_eq, List.all_eq_true, decide_eq_true_eq] at h
  exact ⟨h.1.2, fun i a b => chain_step h.1.1, fun a => chain_last h.1.1, fun a ha x hx => (h.2 a ha).1 x hx, fun a ha => (h.2 a ha).2⟩
theorem CombOk.pos {n k : Nat} {L : List (List Nat)} (C : CombOk n k L) : 0 < L.length := (List.getElem?_eq_some_iff.mp C.head).1
def ItC (L : List (List Nat)) : It :=
  ⟨fun i _ => i < L.length, fun i H v H' => ∃ T ks, L[i]? = some ks ∧ v = .ref T ∧ H T = none ∧ H' = upd H T (.tup (ks.map fun (k : Nat) => V.int (k : Int))), fun i _ => i = L.length⟩
theorem chosen_vals {items : Array Value} {n : Nat} (hi : ItemsOf (fun i v => ∃ t, v = .int (0 + i * 1) t) items n) : ∀ {ks : List Nat}, (∀ x ∈ ks, x < n) → Vals (ks.map fun (k : Nat) => V.int (k : Int)) (ks.map fun i => items.getD i .none)
  | [], _ => .nil
  | k :: ks, h => by
    have hk : k < items.size := by rw [hi.1]; exact h k List.mem_cons_self
    obtain ⟨t, e⟩ := hi.2 k (items.getD k .none) (by simp [Array.getD, hk])
    refine .cons ⟨t, ?_⟩ (chosen_vals hi fun x hx => h x (List.mem_cons_of_mem _ hx))
    refine e.trans ?_
    congr 1
    omega
def StC (L : List (List Nat)) (it pool : Addr) (items : Array Value) (i : Nat) (h : Heap) : Prop :=
  h.IsTuple pool items ∧ ((i = 0 ∧ ∃ a, L[0]? = some a ∧ IsComb h it pool 0 .none a) ∨ (∃ j, i = j + 1 ∧ ∃ last a, L[j]? = some a ∧ IsComb h it pool 1 last a))
theorem StC.at' {L : List (List Nat)} {it pool : Addr} {items : Array Value} {i : Nat} {h h' : Heap} (st : StC L it pool items i h) (k : ∀ b ∈ [it, pool], ∀ o, h.get? b = some o → h'.get? b = some o) : StC L it pool items i h' := by
  obtain ⟨hp, c⟩ := st
  refine ⟨hp.at fun o e => k pool (by simp) o e, c.imp (fun ⟨e, a, ha, q⟩ => ⟨e, a, ha, k it (by simp) _ q⟩) fun ⟨j, e, last, a, ha, q⟩ => ⟨j, e, last, a, ha, k it (by simp) _ q⟩⟩
theorem StC.rec {L : List (List Nat)} {it pool : Addr} {items : Array Value} {i : Nat} {h : Heap} (st : StC L it pool items i h) : ∃ vs, h.get? it = some { cls := .type "itertools.combinations", dict := none, data := .fields vs, slots := #[] } := by
  obtain ⟨hp, ⟨_, a, _, q⟩ | ⟨_, _, last, a, _, q⟩⟩ := st
  · exact ⟨_, q⟩
  · exact ⟨_, q⟩

theorem turn_comb {P : Program} {w : World} {K : PySem.W.Frag} {tg : Expr} {it pool : Addr} {items : Array Value} {n k : Nat} {L : List (List Nat)} (C : CombOk n k L) (hne : pool ≠ it) (hi : ItemsOf (fun i v => ∃ t, v = .int (0 + i * 1) t) items n) :
    Turn P w K tg (ItC L) [it, pool] it (StC L it pool items) where
  mem := by simp
  obj := fun i h st b hb => by
    rcases (show b = it ∨ b = pool by simpa using hb) with e | e
    · obtain ⟨vs, q⟩ := st.rec
      exact ⟨_, e ▸ q, fun v z => by cases z⟩
    · obtain ⟨o, e1, _, m, e2⟩ := st.1
      exact ⟨o, e ▸ e1, fun v z => by rw [e2] at z; cases z⟩
  keep := fun i h h' st k => st.at' k
  item := by
    intro X hP hw hK hc i pins s σ H E I hf st hg
    subst hP hw hK
    have en : items.size = n := hi.1
    have hp := st.1
    have lp : pool < s.heap.objs.size := by obtain ⟨o, e1, _⟩ := id hp; exact Heap.lt_size e1
    have li : it < s.heap.objs.size := by obtain ⟨vs, q⟩ := st.rec; exact Heap.lt_size q
    -- what is handed out is new
    have fin : ∀ (h' : Heap) (ks : List Nat), L[i]? = some ks → IsComb h' it pool 1 (.ref s.heap.objs.size) ks → h'.get? s.heap.objs.size = some (chosen items ks) → (∀ b o, b ≠ it → s.heap.get? b = some o → h'.get? b = some o) →
        ∃ u, some (Value.ref s.heap.objs.size) = some u ∧ wpAny (model X.prog X.w) X.A (letOwnedTupleGo tg (.ref it) u) (fun _ s2 => ∃ x H', Inv X pins σ H' s2 ∧ RelV x u ∧ (ItC L).yld i H x H' ∧ StC L it pool items (i + 1) s2.heap ∧ ∀ b ∈ [it, pool], H' b = none) E { s with heap := h' } := fun h' ks ek hit hT hk => by
      have mem : ks ∈ L := List.mem_of_getElem? ek
      have new : ObjOk X.prog X.w (upd H s.heap.objs.size (.tup (ks.map fun (k : Nat) => V.int (k : Int)))) h' s.heap.objs.size (.tup (ks.map fun (k : Nat) => V.int (k : Int))) := ⟨by
        have := C.len ks mem
        rw [List.length_map, sizeLine_eq]
        omega, _, chosen_vals hi (C.lt ks mem), ⟨_, hT, rfl, _, rfl⟩⟩
      have I1 := I.turnedNew (t' := s.toks) (ch := [it, pool]) (fun c o hb q => hk c o (fun e => hb (by simp [e])) q) hf (Nat.le_refl _) new
      refine ⟨_, rfl, go_of (s := { s with heap := h' }) (n := "itertools.combinations") hit rfl rfl (by decide) ⟨.ref s.heap.objs.size, _, I1, rfl, ⟨_, ks, ek, rfl, I.hok.fresh (Nat.le_refl _), rfl⟩, ⟨hp.at fun o e => hk pool o hne e, .inr ⟨i, rfl, _, ks, ek, hit⟩⟩, fun b hb => ?_⟩⟩
      have lb : b < s.heap.objs.size := by
        rcases (show b = it ∨ b = pool by simpa using hb) with e | e <;> rw [e]
        · exact li
        · exact lp
      rw [upd_ne (Nat.ne_of_lt lb)]
      exact (hf b hb).1
    obtain ⟨_, ⟨e0, a, ha, q⟩ | ⟨j, e0, last, a, ha, q⟩⟩ := st
    · subst e0
      exact comb_first q hp hne (C.len a (List.mem_of_getElem? ha)) fun h' e1 e2 e3 => fin h' a ha e1 e2 e3
    · subst e0
      obtain ⟨b, eb⟩ : ∃ b, L[j + 1]? = some b := ⟨_, List.getElem?_eq_getElem hg⟩
      exact comb_more q hp hne (by rw [en]; exact C.step j a b ha eb) (C.len b (List.mem_of_getElem? eb)) fun h' e1 e2 e3 => fin h' b eb e1 e2 e3
  done := by
    intro X hP hw hK hc i pins s σ H E I hf st hg
    subst hP hw hK
    have en : items.size = n := hi.1
    have hp := st.1
    have hg : i = L.length := hg
    have pos := C.pos
    obtain ⟨_, ⟨e0, a, ha, q⟩ | ⟨j, e0, last, a, ha, q⟩⟩ := st
    · omega
    · have ej : j = L.length - 1 := by omega
      subst ej
      exact comb_end (I.ok.hd hc) q hp (by rw [en]; exact C.last a ha) fun h' hk => ⟨rfl, by
        obtain ⟨f0, f1, f2, f3, f4, f5⟩ := hf it (by simp)
        exact I.turned (t' := s.toks) hk f0 f1 f3 f4 f5⟩
  self := fun A i s Q E st h => by
    obtain ⟨_, ⟨_, a, _, q⟩ | ⟨_, _, last, a, _, q⟩⟩ := st
    · exact iter_comb q h
    · exact iter_comb q h
end CpComb
namespace CpComb
open PySem PySem.Spec PyProof.Rows L2
def iComb (ta tb : TE) : TI := fun σ H R => ta σ H fun x H1 => ∃ n : Nat, x = .int (n : Int) ∧ n ≤ 100 ∧ tb σ H1 fun y H2 => ∃ (k : Nat) (L : List (List Nat)), y = .int (k : Int) ∧ k ≤ n ∧ CombOk n k L ∧ R (ItC L) H2
section
variable {X : Cx} {tg a b : Expr} {ta tb : TE}
theorem pi_comb {p p2 pos pos2 : Pos} (hc : X.calm = true) (hg : Gl X "combinations") (hm : X.mg "combinations" = some (.type "itertools.combinations")) (hg2 : Gl X "range") (hm2 : X.mg "range" = none) (ha : PE X a ta) (hb : PE X b tb)
    (na : starEach [a] X.env = (false, eval a X.env) :: starEach [] X.env := by rfl) (nb : starEach [b] X.env = (false, eval b X.env) :: starEach [] X.env := by rfl)
    (nc : starEach [.Call (.Name "range" p2) [a] [] pos2, b] X.env = (false, eval (.Call (.Name "range" p2) [a] [] pos2) X.env) :: starEach [b] X.env := by rfl) (hpl : (backTo pos (starEach [b] X.env)).any (·.1) = false := by rfl) :
    PI X tg (.Call (.Name "combinations" p) [.Call (.Name "range" p2) [a] [] pos2, b] [] pos) (iComb ta tb) := by
  refine ⟨fun pins s σ H R I h => ?_⟩
  refine Call_ (ld_glob I hg hm (callWith_type1 (args_cons ?_ nc) nc hpl))
  refine Call_ (ld_blt I hg2 hm2 boot_range (callWith_type1 (one_arg ha I h (fun v s1 x H1 I1 r q => ?_) na) na))
  obtain ⟨n, rfl, hn, q⟩ := q
  obtain ⟨t, rfl⟩ := r
  refine call_range_1 ?_
  have I2 : Inv X pins σ H1 { s1 with heap := s1.heap.push { cls := .type "range", data := .fields #[.int 0 s1.toks, .int (n : Int) t, .int 1 (s1.toks + 1)] }, toks := s1.toks + 1 + 1 } := I1.kept fun b u e => Heap.get?_push_of_some _ e
  have hob := Heap.get?_push_size s1.heap (o := { cls := .type "range", data := .fields #[.int 0 s1.toks, .int (n : Int) t, .int 1 (s1.toks + 1)] }) rfl
  have fr : ∀ c ∈ [s1.heap.objs.size], FpOk X pins H1 c := fun c hc => by
    have e : c = s1.heap.objs.size := by simpa using hc
    subst e
    exact I1.fpOk (Nat.le_refl _) (I1.hok.fresh (Nat.le_refl _))
  have I3 := I2.pinned fr fun c hc => by
    have e : c = s1.heap.objs.size := by simpa using hc
    subst e
    exact ⟨_, hob, fun v z => by cases z⟩
  refine args_cons (thn (hb.run _ _ σ H1 _ I3 q) fun v s2 ⟨y, H2, I4, r, q⟩ => args_nil ?_) nb
  obtain ⟨k, L, rfl, hk, C, q⟩ := q
  obtain ⟨t', rfl⟩ := r
  have hr := (I4.pin (s1.heap.objs.size, _) (List.mem_append_right _ (List.mem_append_right _ (mem_pinsAt (by simp) hob)))).1
  have I5 : Inv X pins σ H2 s2 := I4.unpinned
  have sz : Builtin.Range.rangeSize 0 (n : Int) 1 = (n : Nat) := by rw [rangeSize_one]; split <;> omega
  refine call_comb (n := n) (I5.ok.hd hc) hr (small_one (by omega) (by omega) (by omega) (by omega)) sz (by omega) (by omega) (by omega) fun h' tk acc hk' hi => ?_
  have I6 : Inv X pins σ H2 { s2 with heap := h', toks := tk } := I5.kept hk'
  have eit := Heap.get?_push_size (h'.push { cls := .type "tuple", data := .seq acc }) (o := { cls := .type "itertools.combinations", dict := none, data := .fields (([.ref h'.objs.size, rawInt 0, .none] ++ (List.range (k : Int).toNat).map fun (i : Nat) => rawInt i).toArray), slots := #[] }) rfl
  rw [Heap.size_push] at eit
  refine iter_comb (last := .none) (ks := List.range (k : Int).toNat) (st := 0) (pool := h'.objs.size) eit ?_
  refine ⟨h'.objs.size + 1, [h'.objs.size + 1, h'.objs.size], _, _, H2, rfl, I5.kept (t' := tk) fun c o e => Heap.get?_push_of_some _ (Heap.get?_push_of_some _ (hk' c o e)), turn_comb C (Nat.ne_of_lt (Nat.lt_succ_self _)) hi,
    ⟨⟨_, Heap.get?_push_of_some _ (Heap.get?_push_size _ rfl), rfl, _, rfl⟩, .inl ⟨rfl, _, C.head, eit⟩⟩, fun c hc => ?_, q⟩
  rcases (show c = h'.objs.size + 1 ∨ c = h'.objs.size by simpa using hc) with e | e <;> subst e
  · exact I6.fpOk (Nat.le_succ _) (I6.hok.fresh (Nat.le_succ _))
  · exact I6.fpOk (Nat.le_refl _) (I6.hok.fresh (Nat.le_refl _))
end
end CpComb
namespace DL
open PySem PySem.Spec PyProof.Rows L2 CpComb
def combsF (n : Nat) : Nat → List Nat → List (List Nat)
  | 0, a => [a]
  | m + 1, a => a :: match nextC n a with
    | none => []
    | some b => combsF n m b
def combsL (n k : Nat) : List (List Nat) := combsF n 7 (List.range k)
theorem combs_ok {n k : Nat} (hn : n ≤ 4) (hk : k ≤ n) : CombOk n k (combsL n k) := by
  have h : ∀ n, n < 5 → ∀ k, k < n + 1 → okB n k (combsL n k) = true := by decide +kernel
  exact combOk_of (h n (by omega) k (by omega))
def encC (ks : List Nat) : DV := .tup (ks.map fun (i : Nat) => .int (i : Int))
def nat4 : DV → Option Nat
  | .int n => if 0 ≤ n ∧ n ≤ 4 then some n.toNat else none
  | _ => none
def gComb (n : Nat) : DV → Option (List DV)
  | .int k => if 0 ≤ k ∧ k ≤ n then some ((combsL n k.toNat).map encC) else none
  | _ => none
def dCombS (da db : DE) : DA := fun σ h => (da σ h).bind fun a h1 => (ofO (nat4 a) h1).bind fun n h2 => (db σ h2).bind fun b h3 => ofO (gComb n b) h3
theorem reps_nats {K : PySem.W.Frag} {Hb : Hp} {ρ : List Addr} : ∀ ks : List Nat, Reps K Hb ρ (ks.map fun (k : Nat) => V.int (k : Int)) (ks.map fun (i : Nat) => DV.int (i : Int))
  | [] => .nil
  | k :: ks => .cons (.int _) (reps_nats ks)
theorem src_comb {K : PySem.W.Frag} (L : List (List Nat)) : Src K (ItC L) (L.map encC) (fun _ _ _ => True) where
  mono := fun _ _ _ _ _ _ _ z => z
  stop := fun _ _ _ _ _ _ _ _ _ => by show (L.map encC).length = L.length; rw [List.length_map]
  go := fun Hb ρ G Fr h H i w _ _ R e => by
    rw [List.getElem?_map] at e
    obtain ⟨ks, ek, rfl⟩ := Option.map_eq_some_iff.mp e
    refine ⟨(List.getElem?_eq_some_iff.mp ek).1, fun x H' y => ?_⟩
    obtain ⟨T, ks', e', rfl, hT, rfl⟩ := y
    rw [ek] at e'
    cases e'
    obtain ⟨s1, R1⟩ := R.new hT (.tup (ks.map fun (k : Nat) => V.int (k : Int)))
    exact ⟨_, s1, R1, rep_tup (R.hb_fresh hT) (reps_nats ks)⟩
section
variable {X : Cx} {E : L2.St → XK} {tg a b : Expr} {da db : DE}
theorem si_comb {c : Bool} {p p2 pos pos2 : Pos} (hc : X.calm = true) (hg : Gl X "combinations") (hm : X.mg "combinations" = some (.type "itertools.combinations")) (hg2 : Gl X "range") (hm2 : X.mg "range" = none) (ha : SE X E a da) (hb : SE X E b db)
    (na : starEach [a] X.env = (false, eval a X.env) :: starEach [] X.env := by rfl) (nb : starEach [b] X.env = (false, eval b X.env) :: starEach [] X.env := by rfl)
    (nc : starEach [.Call (.Name "range" p2) [a] [] pos2, b] X.env = (false, eval (.Call (.Name "range" p2) [a] [] pos2) X.env) :: starEach [b] X.env := by rfl) (hpl : (backTo pos (starEach [b] X.env)).any (·.1) = false := by rfl) :
    SI X E c tg (.Call (.Name "combinations" p) [.Call (.Name "range" p2) [a] [] pos2, b] [] pos) (dCombS da db) :=
  (pi_comb hc hg hm hg2 hm2 ha hb na nb nc hpl).weak fun s H Rr ⟨Hb, ρ, F0, Fr, σ, h, R, x, k⟩ => by
  refine ⟨Hb, ρ, F0, Fr, σ, h, R, x, (Rz.bind k).imp (fun wa h1 k => ?_) fun _ _ z => z⟩
  intro Hb1 ρ1 H1 v1 s1 p1 R1 r1
  obtain ⟨n, en, kz⟩ := Rz.ofO (Rz.bind k)
  have ⟨en1, n4⟩ : wa = .int (n : Int) ∧ n ≤ 4 := by
    unfold nat4 at en
    split at en
    · rename_i m
      by_cases hm : 0 ≤ m ∧ m ≤ 4
      · rw [if_pos hm] at en
        cases en
        exact ⟨by rw [Int.toNat_of_nonneg hm.1], by omega⟩
      · rw [if_neg hm] at en; cases en
    · cases en
  subst en1
  refine ⟨n, int_of r1, by omega, Hb1, ρ1, F0, Fr, σ, h1, R1, x.mono s1 p1, (Rz.bind kz).imp (fun wb h2 k => ?_) (Pex.back s1 p1)⟩
  intro Hb2 ρ2 H2 v2 s2 p2 R2 r2
  obtain ⟨ws, ew, k⟩ := Rz.ofO k
  unfold gComb at ew
  split at ew
  · rename_i m
    by_cases hm : 0 ≤ m ∧ m ≤ (n : Int)
    · rw [if_pos hm] at ew
      cases ew
      refine ⟨m.toNat, combsL n m.toNat, (int_of r2).trans (by rw [Int.toNat_of_nonneg hm.1]), by omega, combs_ok n4 (by omega), k Hb2 ρ2 H2 _ _ (s1.trans s2) (p1.trans p2) R2 (src_comb _) trivial⟩
    · rw [if_neg hm] at ew; cases ew
  · cases ew
end
end DL
namespace LA
theorem combs_filter : ∀ n, n < 5 → ∀ b0 b1 b2 b3 : Bool, ∀ k, k < 5 → ((List.range n).filter fun i => if i = 0 then b0 else if i = 1 then b1 else if i = 2 then b2 else b3).length = k →
    ((List.range n).filter fun i => if i = 0 then b0 else if i = 1 then b1 else if i = 2 then b2 else b3) ∈ DL.combsL n k := by decide +kernel
theorem combs_asc : ∀ n, n < 5 → ∀ k, k < n + 1 → ∀ P ∈ DL.combsL n k, P.Pairwise (· < ·) ∧ (∀ x ∈ P, x < n) ∧ P.length = k := by decide +kernel
theorem combs_nodup : ∀ n, n < 5 → ∀ k, k < n + 1 → (DL.combsL n k).Nodup := by decide +kernel
theorem mem_combs {n k : Nat} (hn : n ≤ 4) (hk : k ≤ n) {P : List Nat} : P ∈ DL.combsL n k ↔ P.Pairwise (· < ·) ∧ (∀ x ∈ P, x < n) ∧ P.length = k := by
  refine ⟨fun h => combs_asc n (by omega) k (by omega) P h, fun ⟨h1, h2, h3⟩ => ?_⟩
  have e : P = (List.range n).filter fun i => decide (i ∈ P) := asc_eq h1 (List.pairwise_lt_range.filter _) fun a => by
    rw [List.mem_filter, List.mem_range, decide_eq_true_eq]
    exact ⟨fun h => ⟨h2 a h, h⟩, fun h => h.2⟩
  have e2 : ((List.range n).filter fun i => decide (i ∈ P)) = (List.range n).filter fun i => if i = 0 then decide (0 ∈ P) else if i = 1 then decide (1 ∈ P) else if i = 2 then decide (2 ∈ P) else decide (3 ∈ P) := by
    refine List.filter_congr fun i hi => ?_
    have hi : i < 4 := by have := List.mem_range.mp hi; omega
    rcases (show i = 0 ∨ i = 1 ∨ i = 2 ∨ i = 3 by omega) with r | r | r | r <;> subst r <;> rfl
  have hl := h3
  rw [e, e2] at hl ⊢
  exact combs_filter n (by omega) _ _ _ _ k (by omega) hl
def entr (p lead : Nat) (places : List Nat) (pl : Nat) : List Int := if pl = lead then [1] else if pl < lead ∨ pl ∈ places then [0] else (List.range p).map fun i => ((i : Nat) : Int)
def rowsAt (p n lead : Nat) (places : List Nat) : List (List Int) := (List.range n).foldl (fun rows pl => rows.flatMap fun row => (entr p lead places pl).map fun e => row ++ [e]) [[]]
def spacesAt (p n : Nat) (places : List Nat) : List (List (List Int)) := places.foldl (fun spaces lead => spaces.flatMap fun sp => (rowsAt p n lead places).map fun r => sp ++ [r]) [[]]
def allU (p n k : Nat) : List (List (List Int)) := (DL.combsL n k).flatMap (spacesAt p n)
theorem mem_rowsAt {p lead : Nat} {places : List Nat} : ∀ {n : Nat} {u : List Int}, u ∈ rowsAt p n lead places ↔ u.length = n ∧ ∀ i, i < n → ent u i ∈ entr p lead places i := by
  intro n
  induction n with
  | zero => intro u; unfold rowsAt; simp
  | succ n ih =>
    intro u
    have e : rowsAt p (n + 1) lead places = (rowsAt p n lead places).flatMap fun row => (entr p lead places n).map fun e => row ++ [e] := by
      unfold rowsAt; rw [List.range_succ, List.foldl_append]; rfl
    rw [e, List.mem_flatMap]
    constructor
    · rintro ⟨row, hr, hu⟩
      obtain ⟨x, hx, rfl⟩ := List.mem_map.mp hu
      obtain ⟨h1, h2⟩ := ih.mp hr
      refine ⟨by simp [h1], fun i hi => ?_⟩
      unfold ent
      by_cases hin : i < n
      · rw [List.getD_eq_getElem?_getD, List.getElem?_append_left (by omega), ← List.getD_eq_getElem?_getD]
        exact h2 i hin
      · have : i = n := by omega
        subst this
        rw [List.getD_eq_getElem?_getD, List.getElem?_append_right (by omega), h1]
        simpa using hx
    · rintro ⟨h1, h2⟩
      have hne : u ≠ [] := fun z => by rw [z] at h1; cases h1
      refine ⟨u.dropLast, ih.mpr ⟨by simp [h1], fun i hi => ?_⟩, List.mem_map.mpr ⟨u.getLast hne, ?_, List.dropLast_concat_getLast hne⟩⟩
      · have := h2 i (by omega)
        unfold ent at this ⊢
        rw [List.getD_eq_getElem?_getD] at this ⊢
        rw [List.getElem?_dropLast, if_pos (by omega)]
        exact this
      · have := h2 n (by omega)
        unfold ent at this
        rw [List.getD_eq_getElem?_getD, List.getElem?_eq_getElem (by omega)] at this
        rw [List.getLast_eq_getElem]
        simp only [h1, Nat.add_sub_cancel]
        exact this
inductive Fits (p n : Nat) (pls : List Nat) : List (List Int) → List Nat → Prop
  | nil : Fits p n pls [] []
  | cons {r : List Int} {l : Nat} {S : List (List Int)} {ls : List Nat} (h : r ∈ rowsAt p n l pls) (t : Fits p n pls S ls) : Fits p n pls (r :: S) (l :: ls)
theorem Fits.app {p n : Nat} {pls : List Nat} {S S' : List (List Int)} {ls ls' : List Nat} (h : Fits p n pls S ls) (h' : Fits p n pls S' ls') : Fits p n pls (S ++ S') (ls ++ ls') := by
  induction h with
  | nil => exact h'
  | cons h t ih => exact .cons h ih
theorem mem_spaces_from {p n : Nat} {pls : List Nat} : ∀ (ls : List Nat) (spaces : List (List (List Int))) (S : List (List Int)),
    S ∈ ls.foldl (fun spaces lead => spaces.flatMap fun sp => (rowsAt p n lead pls).map fun r => sp ++ [r]) spaces ↔ ∃ A B, A ∈ spaces ∧ Fits p n pls B ls ∧ S = A ++ B
  | [], spaces, S => ⟨fun h => ⟨S, [], h, .nil, by simp⟩, fun ⟨A, B, hA, hB, e⟩ => by cases hB; rw [e]; simpa using hA⟩
  | l :: ls, spaces, S => by
    rw [List.foldl_cons, mem_spaces_from ls]
    constructor
    · rintro ⟨A, B, hA, hB, e⟩
      obtain ⟨sp, hsp, hA⟩ := List.mem_flatMap.mp hA
      obtain ⟨r, hr, rfl⟩ := List.mem_map.mp hA
      exact ⟨sp, r :: B, hsp, .cons hr hB, by rw [e]; simp⟩
    · rintro ⟨A, B, hA, hB, e⟩
      cases hB with
      | cons hr ht => exact ⟨_, _, List.mem_flatMap.mpr ⟨A, hA, List.mem_map.mpr ⟨_, hr, rfl⟩⟩, ht, by rw [e]; simp⟩
theorem mem_spacesAt {p n : Nat} {pls : List Nat} {S : List (List Int)} : S ∈ spacesAt p n pls ↔ Fits p n pls S pls := by
  unfold spacesAt
  rw [mem_spaces_from]
  exact ⟨fun ⟨A, B, hA, hB, e⟩ => by rw [List.mem_singleton] at hA; rw [e, hA]; exact hB, fun h => ⟨[], S, List.mem_singleton.mpr rfl, h, rfl⟩⟩
section
variable {p : Nat} [NeZero p] {n : Nat}
theorem rowsAt_ok (hp : 1 < p) {l : Nat} {pls : List Nat} {u : List Int} (hl : l < n) (h : u ∈ rowsAt p n l pls) : IsRow p n u ∧ lead u = some l ∧ ent u l = 1 ∧ ∀ o ∈ pls, o ≠ l → ent u o = 0 := by
  obtain ⟨h1, h2⟩ := mem_rowsAt.mp h
  have en : ∀ i, i < n → InR p (ent u i) := fun i hi => by
    have := h2 i hi
    unfold entr at this
    split at this
    · rw [List.mem_singleton] at this; rw [this]; exact ⟨by decide, by omega⟩
    · split at this
      · rw [List.mem_singleton] at this; rw [this]; exact inR_zero
      · obtain ⟨c, hc, e⟩ := List.mem_map.mp this
        rw [← e]; exact ⟨by omega, by have := List.mem_range.mp hc; omega⟩
  have e1 : ent u l = 1 := by
    have := h2 l hl
    unfold entr at this
    rw [if_pos rfl, List.mem_singleton] at this
    exact this
  refine ⟨⟨h1, fun x hx => ?_⟩, lead_some.mpr ⟨by rw [e1]; decide, fun j hj => ?_⟩, e1, fun o ho hne => ?_⟩
  · obtain ⟨i, hi, e⟩ := List.getElem_of_mem hx
    rw [← e, ← ent_lt hi]
    exact en i (by omega)
  · have := h2 j (by omega)
    unfold entr at this
    rw [if_neg (by omega), if_pos (.inl hj), List.mem_singleton] at this
    exact this
  · by_cases hn : o < n
    · have := h2 o hn
      unfold entr at this
      rw [if_neg hne, if_pos (.inr ho), List.mem_singleton] at this
      exact this
    · exact ent_ge (by omega)
theorem Fits.mem {pls : List Nat} {S : List (List Int)} {ls : List Nat} (h : Fits p n pls S ls) : ∀ b ∈ S, ∃ l ∈ ls, b ∈ rowsAt p n l pls := by
  induction h with
  | nil => exact fun b hb => absurd hb List.not_mem_nil
  | cons hr t ih =>
    intro b hb
    rcases List.mem_cons.mp hb with rfl | hb
    · exact ⟨_, List.mem_cons_self, hr⟩
    · obtain ⟨l, hl, h⟩ := ih b hb
      exact ⟨l, List.mem_cons_of_mem _ hl, h⟩
theorem Fits.lds (hp : 1 < p) {pls : List Nat} {S : List (List Int)} {ls : List Nat} (h : Fits p n pls S ls) (hl : ∀ l ∈ ls, l < n) : S.map ld = ls := by
  induction h with
  | nil => rfl
  | cons hr t ih =>
    rw [List.map_cons, ih fun l h => hl l (List.mem_cons_of_mem _ h), ld_of (rowsAt_ok hp (hl _ List.mem_cons_self) hr).2.1]
theorem nodup_of_map {α β : Type} {f : α → β} : ∀ {xs : List α}, (xs.map f).Nodup → xs.Nodup
  | [], _ => .nil
  | x :: xs, h => by
    rw [List.map_cons, List.nodup_cons] at h
    exact List.nodup_cons.mpr ⟨fun hx => h.1 (List.mem_map_of_mem hx), nodup_of_map h.2⟩
theorem inj_of_nodup_map {α β : Type} {f : α → β} : ∀ {xs : List α}, (xs.map f).Nodup → ∀ {a b : α}, a ∈ xs → b ∈ xs → f a = f b → a = b
  | x :: xs, h, a, b, ha, hb, e => by
    rw [List.map_cons, List.nodup_cons] at h
    rcases List.mem_cons.mp ha with ea | ha'
    · rcases List.mem_cons.mp hb with eb | hb'
      · rw [ea, eb]
      · exact absurd (by rw [← ea, e]; exact List.mem_map_of_mem hb') h.1
    · rcases List.mem_cons.mp hb with eb | hb'
      · exact absurd (by rw [← eb, ← e]; exact List.mem_map_of_mem ha') h.1
      · exact inj_of_nodup_map h.2 ha' hb' e
theorem fits_of {R : List (List Int)} (D : Red p n R) {pls : List Nat} (hpl : ∀ o ∈ pls, o ∈ R.map ld) : ∀ {S : List (List Int)}, (∀ b ∈ S, b ∈ R) → Fits p n pls S (S.map ld)
  | [], _ => .nil
  | b :: S, h => by
    have hb := h b List.mem_cons_self
    have hr := D.good.row b hb
    obtain ⟨h1, h2⟩ := D.good.ld' hb
    refine .cons (mem_rowsAt.mpr ⟨hr.len, fun i hi => ?_⟩) (fits_of D hpl fun c hc => h c (List.mem_cons_of_mem _ hc))
    unfold entr
    by_cases c1 : i = ld b
    · rw [if_pos c1, c1, h2]; exact List.mem_singleton.mpr rfl
    · rw [if_neg c1]
      by_cases c2 : i < ld b ∨ i ∈ pls
      · rw [if_pos c2]
        refine List.mem_singleton.mpr ?_
        rcases c2 with c2 | c2
        · exact (lead_some.mp h1).2 i c2
        · obtain ⟨c, hc, e⟩ := List.mem_map.mp (hpl i c2)
          have ne : c ≠ b := fun z => c1 (by rw [← e, z])
          have := D.good.off c hc b hb ne _ (D.good.ld' hc).1
          rw [e] at this
          exact this
      · rw [if_neg c2]
        obtain ⟨z1, z2⟩ := hr.inR i
        exact List.mem_map.mpr ⟨(ent b i).toNat, List.mem_range.mpr (by omega), by omega⟩
theorem mem_allU (hp : 1 < p) (hn : n ≤ 4) {k : Nat} (hk : k ≤ n) {S : List (List Int)} : S ∈ allU p n k ↔ Red p n S ∧ S.length = k := by
  unfold allU
  rw [List.mem_flatMap]
  constructor
  · rintro ⟨pls, hP, hS⟩
    obtain ⟨a1, a2, a3⟩ := (mem_combs hn hk).mp hP
    have F := mem_spacesAt.mp hS
    have el := F.lds hp a2
    have nd : S.Nodup := nodup_of_map (f := ld) (by rw [el]; exact a1.imp fun h => Nat.ne_of_lt h)
    refine ⟨⟨⟨fun b hb => ?_, fun b hb => ?_, fun b hb c hc hne l hl => ?_, nd⟩, ?_⟩, by rw [← a3, ← el, List.length_map]⟩
    · obtain ⟨l, hl, h⟩ := F.mem b hb
      exact (rowsAt_ok hp (a2 l hl) h).1
    · obtain ⟨l, hl, h⟩ := F.mem b hb
      have := rowsAt_ok hp (a2 l hl) h
      exact ⟨l, this.2.1, this.2.2.1⟩
    · obtain ⟨lb, hlb, h⟩ := F.mem b hb
      obtain ⟨lc, hlc, h'⟩ := F.mem c hc
      have x := rowsAt_ok hp (a2 lb hlb) h
      have y := rowsAt_ok hp (a2 lc hlc) h'
      have e : l = lb := by have := hl.symm.trans x.2.1; exact Option.some.inj this
      subst e
      refine y.2.2.2 l hlb fun z => hne ?_
      subst z
      have nd' : (S.map ld).Nodup := by rw [el]; exact a1.imp fun h => Nat.ne_of_lt h
      have e1 : ld b = ld c := by rw [ld_of x.2.1, ld_of y.2.1]
      exact inj_of_nodup_map nd' hb hc e1
    · unfold Asc
      have : (S.map ld).Pairwise (· < ·) := by rw [el]; exact a1
      exact List.pairwise_map.mp this
  · rintro ⟨D, hl⟩
    have lt : ∀ x ∈ S.map ld, x < n := fun x hx => by
      obtain ⟨b, hb, e⟩ := List.mem_map.mp hx
      have h1 := lead_lt (D.good.ld' hb).1
      have h2 := (D.good.row b hb).len
      omega
    exact ⟨S.map ld, (mem_combs hn hk).mpr ⟨List.pairwise_map.mpr D.asc, lt, by rw [List.length_map, hl]⟩, mem_spacesAt.mpr (fits_of D (fun o h => h) fun b h => h)⟩
end
end LA
namespace LA
def code (p : Nat) : List Int → Nat
  | [] => 0
  | x :: xs => x.toNat + p * code p xs
theorem code_inj {p : Nat} : ∀ {u v : List Int}, u.length = v.length → (∀ x ∈ u, InR p x) → (∀ x ∈ v, InR p x) → code p u = code p v → u = v
  | [], [], _, _, _, _ => rfl
  | x :: u, y :: v, hl, hu, hv, e => by
    obtain ⟨x1, x2⟩ := hu x List.mem_cons_self
    obtain ⟨y1, y2⟩ := hv y List.mem_cons_self
    have e : x.toNat + p * code p u = y.toNat + p * code p v := e
    have m : (x.toNat + p * code p u) % p = (y.toNat + p * code p v) % p := by rw [e]
    rw [Nat.add_mul_mod_self_left, Nat.add_mul_mod_self_left, Nat.mod_eq_of_lt (by omega), Nat.mod_eq_of_lt (by omega)] at m
    have e2 : p * code p u = p * code p v := by omega
    have e3 : code p u = code p v := Nat.eq_of_mul_eq_mul_left (by omega) e2
    have := code_inj (u := u) (v := v) (by simpa using hl) (fun z hz => hu z (List.mem_cons_of_mem _ hz)) (fun z hz => hv z (List.mem_cons_of_mem _ hz)) e3
    rw [this, show x = y by omega]
def bits (p : Nat) (W : List (List Int)) : Nat := W.foldl (fun m w => m ||| 2 ^ code p w) 0
theorem testBit_bits_from (p c : Nat) : ∀ (W : List (List Int)) (m : Nat), (W.foldl (fun m w => m ||| 2 ^ code p w) m).testBit c = true ↔ m.testBit c = true ∨ ∃ w ∈ W, code p w = c
  | [], m => by simp
  | w :: W, m => by
    rw [List.foldl_cons, testBit_bits_from p c W, Nat.testBit_or, Bool.or_eq_true, Nat.testBit_two_pow, decide_eq_true_eq]
    constructor
    · rintro ((h | h) | ⟨u, hu, h⟩)
      · exact .inl h
      · exact .inr ⟨w, List.mem_cons_self, h⟩
      · exact .inr ⟨u, List.mem_cons_of_mem _ hu, h⟩
    · rintro (h | ⟨u, hu, h⟩)
      · exact .inl (.inl h)
      · rcases List.mem_cons.mp hu with e | hu
        · exact .inl (.inr (e ▸ h))
        · exact .inr ⟨u, hu, h⟩
theorem testBit_bits {p c : Nat} {W : List (List Int)} : (bits p W).testBit c = true ↔ ∃ w ∈ W, code p w = c := by
  unfold bits
  rw [testBit_bits_from]
  simp
def mask (p n : Nat) (S : List (List Int)) : Nat := bits p (combos p n S)
section
variable {p : Nat} [NeZero p] {n : Nat} {S T : List (List Int)}
theorem bit_mask (hS : Rows p n S) {w : List Int} (hw : IsRow p n w) : (mask p n S).testBit (code p w) = true ↔ Mem p n S w := by
  unfold mask
  rw [testBit_bits]
  constructor
  · rintro ⟨u, hu, e⟩
    have hu' := (mem_combos S hS u).mp hu
    have := code_inj (by rw [hu'.row.len, hw.len]) hu'.row.rng hw.rng e
    rw [← this]; exact hu'
  · exact fun h => ⟨w, (mem_combos S hS w).mpr h, rfl⟩
theorem bit_of (hS : Rows p n S) {c : Nat} (h : (mask p n S).testBit c = true) : ∃ w, Mem p n S w ∧ code p w = c := by
  unfold mask at h
  obtain ⟨w, hw, e⟩ := testBit_bits.mp h
  exact ⟨w, (mem_combos S hS w).mp hw, e⟩
theorem mask_sub (hS : Rows p n S) (hT : Rows p n T) : (mask p n S &&& mask p n T = mask p n S) ↔ ∀ w, Mem p n S w → Mem p n T w := by
  constructor
  · intro e w hw
    have h := (bit_mask hS hw.row).mpr hw
    rw [← e, Nat.testBit_and, Bool.and_eq_true] at h
    exact (bit_mask hT hw.row).mp h.2
  · intro h
    refine Nat.eq_of_testBit_eq fun c => ?_
    rw [Nat.testBit_and]
    cases e : (mask p n S).testBit c with
    | false => rfl
    | true =>
      obtain ⟨w, hw, rfl⟩ := bit_of hS e
      rw [(bit_mask hT hw.row).mpr (h w hw)]
      rfl
theorem mask_meet (hS : Rows p n S) (hT : Rows p n T) {U : List (List Int)} (hU : Rows p n U) (h : ∀ w, Mem p n U w ↔ Mem p n S w ∧ Mem p n T w) : mask p n U = mask p n S &&& mask p n T := by
  refine Nat.eq_of_testBit_eq fun c => ?_
  rw [Nat.testBit_and]
  cases e : (mask p n U).testBit c with
  | true =>
    obtain ⟨w, hw, rfl⟩ := bit_of hU e
    obtain ⟨h1, h2⟩ := (h w).mp hw
    rw [(bit_mask hS hw.row).mpr h1, (bit_mask hT hw.row).mpr h2]
    rfl
  | false =>
    cases e1 : (mask p n S).testBit c with
    | false => rfl
    | true =>
      cases e2 : (mask p n T).testBit c with
      | false => rfl
      | true =>
        obtain ⟨w, hw, rfl⟩ := bit_of hS e1
        have := (bit_mask hT hw.row).mp e2
        have := (bit_mask hU hw.row).mpr ((h w).mpr ⟨hw, this⟩)
        rw [e] at this; cases this
theorem mask_inj (D : Red p n S) (D' : Red p n T) (e : mask p n S = mask p n T) : S = T := by
  refine D.unique D' fun w => ⟨(mask_sub D.good.row D'.good.row).mp (by rw [e, Nat.and_self]) w, (mask_sub D'.good.row D.good.row).mp (by rw [e, Nat.and_self]) w⟩
end
def table (p n : Nat) : List (Nat × Nat) := (List.range (n + 1)).flatMap fun k => (allU p n k).map fun S => (k, mask p n S)
def inT (a b : Nat) : Bool := a &&& b == a
def rule (p : Nat) : Nat → Nat → Nat
  | _, 0 => 1
  | 0, _ + 1 => 0
  | n + 1, k + 1 => rule p n k + p ^ (k + 1) * rule p n (k + 1)
def chkBetween (p n : Nat) : Bool :=
  let T := table p n
  T.all fun a => T.all fun b => !inT a.2 b.2 || (List.range (b.1 - a.1 + 1)).all fun k => ((T.filter fun c => c.1 == a.1 + k && (inT a.2 c.2 && inT c.2 b.2)).length == rule p (b.1 - a.1) k)
def sets9 : List (Nat × Nat) := [(2, 1), (2, 2), (2, 3), (2, 4), (3, 1), (3, 2), (3, 3), (5, 1), (5, 2)]
theorem between_checked : ∀ q ∈ sets9, chkBetween q.1 q.2 = true := by decide +kernel
end LA
namespace LA
def dimOf (T : List (Nat × Nat)) (m : Nat) : Nat := ((T.find? fun c => c.2 == m).map (·.1)).getD 99
def due (p n a k j : Nat) : Nat := (if j ≤ a then rule p a j else 0) * (if j ≤ k then (if k - j ≤ n - a then rule p (n - a) (k - j) else 0) else 0) * (if j ≤ k ∧ j ≤ a then p ^ ((a - j) * (k - j)) else 1)
def chkPairs (p n : Nat) : Bool :=
  let T := table p n
  T.all fun a =>
    let L := T.map fun c => (c.1, dimOf T (a.2 &&& c.2))
    (List.range (n + 1)).all fun k => (List.range (n + 1)).all fun j => (L.filter fun c => c.1 == k && c.2 == j).length == due p n a.1 k j
theorem pairs_checked : ∀ q ∈ sets9, chkPairs q.1 q.2 = true := by decide +kernel
theorem count_checked : ∀ q ∈ sets9, ∀ k, k < q.2 + 1 → (allU q.1 q.2 k).length = rule q.1 q.2 k := by decide +kernel
end LA
namespace LA
def rowsB (p n : Nat) (T : List (List Int)) : Bool := T.all fun u => u.length == n && u.all fun x => decide (0 ≤ x) && decide (x < (p : Int))
theorem rowsB_ok {p n : Nat} {T : List (List Int)} (h : rowsB p n T = true) : Rows p n T := fun u hu => by
  have h1 := List.all_eq_true.mp h u hu
  rw [Bool.and_eq_true, List.all_eq_true] at h1
  refine ⟨by simpa using h1.1, fun x hx => ?_⟩
  have h2 := h1.2 x hx
  rw [Bool.and_eq_true] at h2
  exact ⟨of_decide_eq_true h2.1, of_decide_eq_true h2.2⟩
theorem known {p : Nat} [NeZero p] {n k : Nat} {inv : Int → Int} {S T : List (List Int)} (hp : 1 < p) (hi : InvOk p inv) (hn : n ≤ 4) (hk : k ≤ n) (hS : S ∈ allU p n k) (hT : rowsB p n T = true) (e : mask p n T = mask p n S) : redM p inv T = S ∧ Red p n S := by
  have D := ((mem_allU hp hn hk).mp hS).1
  have hr := rowsB_ok hT
  obtain ⟨D', hm⟩ := redM_ok hi hr
  refine ⟨D'.unique D fun w => ?_, D⟩
  rw [hm]
  have e1 : mask p n T &&& mask p n S = mask p n T := by rw [e, Nat.and_self]
  have e2 : mask p n S &&& mask p n T = mask p n S := by rw [e, Nat.and_self]
  exact ⟨(mask_sub hr D.good.row).mp e1 w, (mask_sub D.good.row hr).mp e2 w⟩
end LA
namespace DL
open PySem PySem.Spec PyProof.Rows L2
def gListRg : DV → Option DV
  | .int n => if 0 ≤ n ∧ n ≤ 1000 then some (.lst (intsFrom 0 n.toNat)) else none
  | _ => none
theorem reps_rgV {K : PySem.W.Frag} {Hb : Hp} {ρ : List Addr} : ∀ (m : Nat) (lo : Int), Reps K Hb ρ ((List.range m).map fun i => V.int (lo + (i : Nat))) (intsFrom lo m)
  | 0, _ => .nil
  | m + 1, lo => by
    rw [List.range_succ_eq_map, List.map_cons, List.map_map]
    have h := reps_rgV (K := K) (Hb := Hb) (ρ := ρ) m (lo + 1)
    have e : (List.range m).map ((fun i : Nat => V.int (lo + (i : Nat))) ∘ Nat.succ) = (List.range m).map fun i => V.int (lo + 1 + (i : Nat)) := List.map_congr_left fun i _ => by
      show V.int (lo + ((i + 1 : Nat) : Int)) = _
      rw [show lo + ((i + 1 : Nat) : Int) = lo + 1 + (i : Nat) by omega]
    rw [e]
    refine .cons ?_ h
    show Rep _ _ _ (V.int (lo + ((0 : Nat) : Int))) (.int lo)
    rw [show lo + ((0 : Nat) : Int) = lo by omega]
    exact .int _
section
variable {X : Cx} {E : L2.St → XK} {a : Expr} {da : DE}
theorem se_listRg {p p2 pos pos2 : Pos} (hc : X.calm = true) (hg : Gl X "list") (hm : X.mg "list" = none) (hg2 : Gl X "range") (hm2 : X.mg "range" = none) (ha : SE X E a da)
    (na : starEach [a] X.env = (false, eval a X.env) :: starEach [] X.env := by rfl) (nb : starEach [.Call (.Name "range" p2) [a] [] pos2] X.env = (false, eval (.Call (.Name "range" p2) [a] [] pos2) X.env) :: starEach [] X.env := by rfl) :
    SE X E (.Call (.Name "list" p) [.Call (.Name "range" p2) [a] [] pos2] [] pos) (dUn gListRg da) :=
  (pe_listRg hc hg hm (prg_1 hg2 hm2 ha na) nb).weak fun s H Q ⟨Hb, ρ, F0, Fr, σ, h, R, x, k⟩ => by
  refine ⟨Hb, ρ, F0, Fr, σ, h, R, x, (Rz.bind k).imp (fun wa h1 k => ?_) fun _ _ z => z⟩
  intro Hb1 ρ1 H1 v1 s1 p1 R1 r1
  obtain ⟨w, ew, kz⟩ := Rz.ofO k
  unfold gListRg at ew
  split at ew
  · rename_i n
    by_cases hn : 0 ≤ n ∧ n ≤ 1000
    · rw [if_pos hn] at ew
      cases ew
      refine ⟨n, int_of r1, RgOk.of_le (Int.le_refl _) (by omega) (by omega) hn.1, fun q hq => ?_⟩
      refine Pst.lst R1 (Pst.back s1 p1 _ _ kz) ?_ q hq
      have e := reps_rgV (K := X.K) (Hb := Hb1) (ρ := ρ1) n.toNat 0
      unfold rgV
      rw [show (n - 0).toNat = n.toNat by omega]
      exact e
    · rw [if_neg hn] at ew; cases ew
  · cases ew
def int1 : DV → Option DV
  | .int i => some (.int i)
  | .bl b => some (.int (if b then 1 else 0))
  | _ => none
def gInt : List DV → DH → Option DV := g1 fun a _ => int1 a
theorem bl_of' {K : PySem.W.Frag} {Hb : Hp} {ρ : List Addr} {Fr : Hp} {x : V} {b : Bool} (r : RepT K Hb ρ Fr x (.bl b)) : x = .bl b := by
  cases r with
  | per r => cases r; rfl
theorem b_int : Blt X (.type "int") gInt := ⟨_, call_int1, cd1 fun Hb ρ Fr h H x a w Q R r1 e k => by
  unfold int1 at e
  split at e
  · cases e
    have ex := int_of r1
    subst ex
    exact .inl ⟨_, rfl, Pst.same R k r1⟩
  · cases e
    have ex := bl_of' r1
    subst ex
    exact .inr ⟨_, rfl, Pst.same R k (.per (.int _))⟩
  · cases e⟩
end
end DL
namespace DL
open PySem PySem.Spec PyProof.Rows L2
theorem sorts_one {prog : Program} {w : World} {A : Around} {s : Shared} {v : Value} {d : PyData} {as : List Addr} (r : Reads s.heap v d as) (hal : PySem.W.alike d d = true) (hn : d ≠ .none) (hu : A.units + d.depth < cLine) : PySem.W.SortsAt prog w A s (PySem.W.dataKind s.heap [d]) [v] := by
  have al : PySem.W.AllAlike [d] := fun a ha b hb => by
    rw [List.mem_singleton] at ha hb
    subst ha
    subst hb
    exact hal
  refine ⟨fun u hu => ?_, general', fun E x y a b Q ha hb hq => ?_, fun h2 => absurd h2 (by simp)⟩
  · rw [List.mem_singleton] at hu
    subst hu
    exact ⟨_, PySem.W.dataKind_some al List.mem_cons_self r⟩
  · obtain ⟨d1, as1, hd1, ra, rfl⟩ := PySem.W.dataKind_inv ha
    obtain ⟨d2, as2, hd2, rb, rfl⟩ := PySem.W.dataKind_inv hb
    rw [List.mem_singleton] at hd1 hd2
    subst hd1
    subst hd2
    show wpAny (model prog w) A (oneLt' false x y) Q E s
    exact PySem.W.oneLt_alike (fun h => by cases h) ra rb hal hn (by rw [Nat.min_self]; exact hu) hq
def rSorted1 (K : PySem.W.Frag) : List V → Hp → VK → Prop := fun vs H Q => ∃ (a : Addr) (v : V) (d : PyData), vs = [V.ref a] ∧ SqL K H a [v] ∧ Dp K H v d ∧ PySem.W.alike d d = true ∧ d ≠ .none ∧ d.depth ≤ 60 ∧ ∀ p, H p = none → Q (.ref p) (upd H p (.lst [v]))
theorem cr_sorted1 {X : Cx} (hu : X.A.units + 64 < cLine) : CallR X (.builtin "sorted") (rSorted1 X.K) := by
  intro pins s σ H vs us Q I r h
  obtain ⟨a, v, d, rfl, hs, hd, hal, hn, hdep, q⟩ := h
  obtain ⟨its, rv, hl, hz⟩ := I.list hs
  rw [Vals.ref1 r]
  obtain ⟨u, rfl, ru⟩ := vals1 rv
  obtain ⟨as, rd⟩ := Dp.reads I d v u hd ru
  refine PySem.W.sorted_vals (vs := [u]) hl.isList (sorts_one (PyProof.Rows.Reads.keeps (fun _ _ => PySem.W.sorting_copy_old) rd) hal hn ?_) (by show 1 ≤ sizeLine; decide +kernel) ?_
  · show X.A.units + 1 + 1 + d.depth < cLine
    omega
  · have e1 : ∀ κ : PyProof.Rows.KeyKind, PySem.W.sortVals κ false [u] [u] = [u] := fun κ => by
      have h1 := PySem.W.sortVals_length (κ := κ) false (ks := [u]) (vs := [u]) rfl
      match e : PySem.W.sortVals κ false [u] [u], h1 with
      | [z], _ =>
        have := PySem.W.sortVals_mem (κ := κ) false (ks := [u]) (vs := [u]) (v := z) (by rw [e]; exact List.mem_cons_self)
        rw [List.mem_singleton] at this
        rw [this]
    rw [e1]
    obtain ⟨ep, he'⟩ := PyProof.Rows.sortedAll_at s.heap [u] [u].toArray
    exact ⟨.ref _, upd H (s.heap.objs.size + 1) (.lst [v]), I.laid (t' := s.toks) (fun _ _ => PyProof.Rows.sortedAll_old) (Nat.le_succ _) ⟨by show 1 ≤ sizeLine; decide +kernel, [u], ep, .cons ru .nil, he'⟩, rfl, q _ (I.hok.fresh (Nat.le_succ _))⟩
def sort1 : DV → Option DV
  | .lst [.tup []] => some (.lst [.tup []])
  | .brw [.tup []] => some (.lst [.tup []])
  | _ => none
def gSorted1 : List DV → DH → Option DV := g1 fun w _ => sort1 w
theorem osorted1 {X : Cx} (hu : X.A.units + 64 < cLine) : ∃ r, CallR X (.builtin "sorted") r ∧ CallD X r gSorted1 := ⟨_, cr_sorted1 hu, cd1 fun Hb ρ Fr h H x a w Q R r1 e k => by
  unfold sort1 at e
  split at e
  · cases e
    obtain ⟨p, xs, ex, hq, rr⟩ := lst_of R r1
    cases rr with
    | cons r1 rr =>
      rename_i v vs
      cases rr
      exact ⟨p, v, .tuple [], by rw [ex], SqL.of hq, dp_of R r1 (d := .tuple []) rfl, rfl, (fun z => by cases z), by decide, fun c hp => Pst.lst R k (.cons r1 .nil) c hp⟩
  · cases e
    obtain ⟨p, xs, ex, hq, rr⟩ := brw_of R r1
    cases rr with
    | cons r1 rr =>
      rename_i v vs
      cases rr
      exact ⟨p, v, .tuple [], by rw [ex], hq, dp_of R r1 (d := .tuple []) rfl, rfl, (fun z => by cases z), by decide, fun c hp => Pst.lst R k (.cons r1 .nil) c hp⟩
  · cases e⟩
def gSortedA : List DV → DH → Option DV := gcOr gSorted gSorted1
theorem b_sortedA {X : Cx} {k : Nat} (hr : Room k X.A) : Blt X (.builtin "sorted") gSortedA := by
  have hu : X.A.units + 64 < cLine := by have := hr.un; omega
  obtain ⟨r, h1, h2⟩ := osorted hu
  obtain ⟨r', h1', h2'⟩ := osorted1 hu
  exact ⟨_, h1.or h1', cd_or h2 h2'⟩
end DL
namespace DL
open PySem PySem.Spec PyProof.Rows L2
def gInT : DV → DV → Option DV
  | .int i, w => (tupI w).map fun xs => .bl (decide (i ∈ xs))
  | _, _ => none
theorem reps_allI {K : PySem.W.Frag} {Hb : Hp} {ρ : List Addr} : ∀ {ws : List DV} {vs : List V} {xs : List Int}, allI ws = some xs → Reps K Hb ρ vs ws → vs = xs.map V.int
  | [], vs, xs, e, r => by
    cases e
    cases r
    rfl
  | w :: ws, vs, xs, e, r => by
    obtain ⟨i, e1, e⟩ := Option.bind_eq_some_iff.mp e
    obtain ⟨is, e2, e⟩ := Option.map_eq_some_iff.mp e
    subst e
    cases r with
    | cons r1 rr =>
      cases w with
      | int j =>
        cases e1
        cases r1
        rw [reps_allI e2 rr]
        rfl
      | _ => cases e1
theorem inV_ints (i : Int) : ∀ xs : List Int, inV (.int i) (xs.map V.int) = decide (i ∈ xs)
  | [] => rfl
  | x :: xs => by
    have ih := inV_ints i xs
    unfold inV at ih ⊢
    rw [List.map_cons, List.any_cons, ih]
    show (x == i || decide (i ∈ xs)) = _
    by_cases e : x = i
    · simp [e]
    · have e2 : ¬ i = x := fun z => e z.symm
      by_cases e' : i ∈ xs <;> simp [e, e2, e']
theorem flat_ints : ∀ xs : List Int, (xs.map V.int).all flatV = true
  | [] => rfl
  | x :: xs => by rw [List.map_cons, List.all_cons, flat_ints xs]; rfl
theorem c_inT {X : Cx} : Cmp X .In gInT := ⟨_, op_in_seq, fun Hb ρ Fr h H x y a b w Q R rx ry e k => by
  unfold gInT at e
  split at e
  · rename_i i
    obtain ⟨xs, e1, e⟩ := Option.map_eq_some_iff.mp e
    subst e
    unfold tupI at e1
    split at e1
    · obtain ⟨p, vs, ex, hq, rr⟩ := tup_of R ry
      have ev := reps_allI e1 rr
      have exi := int_of rx
      subst exi
      refine ⟨p, vs, ex, .inr hq, rfl, by rw [ev]; exact flat_ints xs, ?_⟩
      rw [ev]
      show Q (.bl (inV (.int i) (xs.map V.int))) H
      rw [inV_ints]
      exact Pst.same R k (.per (.bl _))
    · cases e1
  · cases e⟩
end DL
namespace DL
open PySem PySem.Spec PyProof.Rows L2
theorem pe_callE {X : Cx} {E : L2.St → XK} {fe e : Expr} {es : List Expr} {pos : Pos} {k : Nat} {tf : TE} {t : TA} (hf : PE X fe tf) (hr : Room k X.A) (hx : ∀ σ, PassesAt (L2.CX X.prog X.w) X σ (E σ)) (ha : PA X (e :: es) t)
    (he : starEach (e :: es) X.env = (false, eval e X.env) :: starEach es X.env := by rfl) (hpl : (backTo pos (starEach es X.env)).any (·.1) = false := by rfl)
    (hc : eval (.Call fe (e :: es) [] pos) X.env = (do callWith pos (← eval fe X.env) [] (backTo pos (starEach (e :: es) X.env)) (backToKw pos (keywordEach [] X.env))) := by rfl) :
    PE X (.Call fe (e :: es) [] pos) (fun σ H Q => tf σ H fun x H1 => ∃ (f : Addr) (fd : FuncData) (ps : List Str) (sp : Sp), x = .ref f ∧ FnOk X.prog X.w X.K X.mg X.base (L2.CX X.prog X.w) k f fd ps sp ∧ PySem.W.keepIn X.K (.ref f) = true ∧ L2.Binds X.K fd ps [] ∧ tCallS sp E t σ H1 Q) := by
  refine ⟨fun pins s σ H Q I h => ?_⟩
  refine Call_ (thn (hf.run pins s σ H _ I h) fun v s1 ⟨x, H1, I1, r1, f, fd, ps, sp, ex, F, hk, hb, q⟩ => ?_) hc
  subst ex
  obtain rfl : v = Value.ref f := r1
  refine PySem.W.callWith_K (h₀ := X.base) I1.ok.mod.kin hk (thn (ha.run pos pins s1 σ H1 _ I1 q) fun us s2 ⟨vs, H2, I2, r, q⟩ => ⟨I2.kIn, ?_⟩) he hpl
  exact run_fnS F hr hb (hx σ) I2 r q
def pickF (Fs : List Fn) : DV → Option Fn
  | .int i => if 0 ≤ i then Fs[i.toNat]? else none
  | _ => none
def dPick (n : Nat) (Fs : List Fn) (di : DE) (dr : DA) : DE := fun σ h => (di σ h).bind fun w h1 => (ofO (pickF Fs w) h1).bind fun F h2 => dCall n F dr σ h2
theorem Rz.mk {α β : Type} {ok : β → DH → Prop} {ex : Str → DH → Prop} {r : Res α} {f : α → DH → Res β} (k : Rz (fun a h => Rz ok ex (f a h)) ex r) : Rz ok ex (r.bind f) := by
  cases r with
  | ok a h => exact k
  | exc c h => exact k
  | bad => exact k
structure Picked (X : Cx) (j n : Nat) (f : Addr) (F : Fn) : Prop where
  ex : ∃ (k : Nat) (fd : FuncData) (ps : List Str), k ≤ j ∧ FnOk X.prog X.w X.K X.mg X.base (L2.CX X.prog X.w) k f fd ps (spD X.K X.mg n F) ∧ PySem.W.keepIn X.K (.ref f) = true ∧ L2.Binds X.K fd ps []
def consA : List Addr → DA
  | [] => daNil
  | f :: fs => daCons (dC (.con (.ref f))) (consA fs)
structure PickOk (X : Cx) (E : L2.St → XK) (j n : Nat) (names : List Expr) (fs : List Addr) (Fs : List Fn) : Prop where
  args : SA X E names (consA fs)
  len : fs.length = Fs.length
  ok : ∀ (i : Nat) (f : Addr) (F : Fn), fs[i]? = some f → Fs[i]? = some F → Picked X j n f F
def Picks (X : Cx) (E : L2.St → XK) (j n : Nat) (names : List Expr) (Fs : List Fn) : Prop := ∃ fs, PickOk X E j n names fs Fs
theorem picks_nil {X : Cx} {E : L2.St → XK} {j n : Nat} : Picks X E j n [] [] := ⟨[], sa_nil, rfl, fun i f F h => by simp at h⟩
theorem picks_cons {X : Cx} {E : L2.St → XK} {j n k : Nat} {x : Str} {F : Fn} {p : Pos} {names : List Expr} {Fs : List Fn} (hf : DefOk X.prog X.w X.K X.mg X.base x k n F) (hj : k ≤ j) (hg : Gl X x) (t : Picks X E j n names Fs) (hdb : (x == ("__debug__" : Str)) = false := by decide)
    (hs : starEach (.Name x p :: names) X.env = (false, eval (.Name x p) X.env) :: starEach names X.env := by rfl) : Picks X E j n (.Name x p :: names) (F :: Fs) := by
  obtain ⟨f, fd, ps, h1, h2, h3, h4⟩ := hf.ex
  obtain ⟨fs, a, l, o⟩ := t
  refine ⟨f :: fs, sa_cons (se_cls hg h2 hdb) a hs, congrArg (· + 1) l, fun i f' F' e e' => ?_⟩
  cases i with
  | zero =>
    cases e
    cases e'
    exact ⟨k, fd, ps, hj, h1, h3, h4⟩
  | succ i => exact o i f' F' e e'
theorem consA_ap (σ : DSt) (h : DH) : ∀ fs : List Addr, consA fs σ h = .ok (fs.map fun f => DV.con (.ref f)) h
  | [] => rfl
  | f :: fs => by
    have e : consA (f :: fs) σ h = (consA fs σ h).bind fun ws h2 => .ok (DV.con (.ref f) :: ws) h2 := rfl
    rw [e, consA_ap σ h fs]
    rfl
theorem heldAll_refs : ∀ fs : List Addr, heldAll (fs.map fun f => DV.con (.ref f)) = true
  | [] => rfl
  | f :: fs => heldAll_refs fs
theorem se_pick {X : Cx} {E : L2.St → XK} {j n : Nat} {names : List Expr} {Fs : List Fn} {ie e : Expr} {es : List Expr} {lp sp pos : Pos} {di : DE} {dr : DA} (hp : Picks X E j n names Fs) (hr : Room j X.A) (hx : ∀ σ, PassesAt (L2.CX X.prog X.w) X σ (E σ)) (hi : SE X E ie di) (hpi : PlainIx ie) (ha : SA X E (e :: es) dr) (hl : Fs.length ≤ 100 := by decide)
    (he : starEach (e :: es) X.env = (false, eval e X.env) :: starEach es X.env := by rfl) (hpl : (backTo pos (starEach es X.env)).any (·.1) = false := by rfl)
    (hc : eval (.Call (.Subscript (.List names lp) ie sp) (e :: es) [] pos) X.env = (do callWith pos (← eval (.Subscript (.List names lp) ie sp) X.env) [] (backTo pos (starEach (e :: es) X.env)) (backToKw pos (keywordEach [] X.env))) := by rfl) :
    SE X E (.Call (.Subscript (.List names lp) ie sp) (e :: es) [] pos) (dPick n Fs di dr) := by
  obtain ⟨fs, a, l, o⟩ := hp
  refine (pe_callE (k := j) (se_item (se_lst (pos := lp) a) hi hpi) hr hx ha he hpl hc).weak fun s H Q ⟨Hb, ρ, F0, Fr, σ, h, R, x, k⟩ => ?_
  have eL : dLst (consA fs) σ h = .ok (.lst (fs.map fun f => DV.con (.ref f))) h := by
    unfold dLst
    rw [consA_ap]
    show chk (heldAll _) (chk (le_cap (fs.map fun f => DV.con (.ref f)).length) _) = _
    rw [heldAll_refs, List.length_map, show le_cap fs.length = true from decide_eq_true (by show fs.length ≤ 100000; omega)]
    rfl
  refine ⟨Hb, ρ, F0, Fr, σ, h, R, x, ?_⟩
  show Rz _ _ ((dLst (consA fs) σ h).bind _)
  rw [eL]
  show Rz _ _ ((di σ h).bind fun b h2 => ofO (gIx (.lst (fs.map fun f => DV.con (.ref f))) b) h2)
  refine Rz.mk ((Rz.bind k).imp (fun w h1 k => ?_) fun _ _ z => z)
  obtain ⟨F, eF, kz⟩ := Rz.ofO (Rz.bind k)
  unfold pickF at eF
  split at eF
  · rename_i i
    by_cases h0 : 0 ≤ i
    · rw [if_pos h0] at eF
      have hlt : i.toNat < fs.length := by rw [l]; exact (List.getElem?_eq_some_iff.mp eF).1
      obtain ⟨f, ef⟩ : ∃ f, fs[i.toNat]? = some f := ⟨_, List.getElem?_eq_getElem hlt⟩
      obtain ⟨k0, fd, ps, hj, hF, h3, h4⟩ := (o i.toNat f F ef eF).ex
      have eg : gIx (.lst (fs.map fun f => DV.con (.ref f))) (.int i) = some (.con (.ref f)) := by
        show atI (fs.map fun f => DV.con (.ref f)) i = _
        unfold atI ixN
        rw [List.length_map, if_pos h0, if_pos (by omega)]
        show (fs.map fun f => DV.con (.ref f))[i.toNat]? = _
        rw [List.getElem?_map, ef]
        rfl
      rw [eg]
      intro Hb1 ρ1 H1 v1 s1 p1 R1 r1
      have ev : v1 = .ref f := by
        cases r1 with
        | per r1 => cases r1; rfl
      exact ⟨f, fd, ps, _, ev, hF.mono hj, h3, h4, dcall_run ⟨Hb1, ρ1, F0, Fr, σ, _, R1, x.mono s1 p1, kz.imp (fun w h2 q => Pst.back s1 p1 _ _ q) (Pex.back s1 p1)⟩⟩
    · rw [if_neg h0] at eF; cases eF
  · cases eF
end DL
namespace DL
open PySem PySem.Spec PyProof.Rows L2
theorem cr_range1 {X : Cx} : CallR X (.type "range") (fun vs H Q => ∃ j, vs = [V.int j] ∧ ∀ p, H p = none → Q (.ref p) (upd H p (.rng 0 j))) := by
  intro pins s σ H vs us Q I r h
  obtain ⟨j, rfl, q⟩ := h
  obtain ⟨u1, rfl, ri⟩ := vals1 r
  obtain ⟨t, rfl⟩ := ri
  refine call_range_1 ⟨.ref s.heap.objs.size, upd H s.heap.objs.size (.rng 0 j), I.laid (t' := s.toks + 1 + 1) (fun b o e => Heap.get?_push_of_some _ e) (Nat.le_refl _) ?_, rfl, q _ (I.hok.fresh (Nat.le_refl _))⟩
  exact ⟨s.toks, t, s.toks + 1, Heap.get?_push_size _ rfl⟩
theorem op_notin_rng {X : Cx} : OpR X (compareOp .NotIn) (fun x y H Q => ∃ i a lo hi, x = V.int i ∧ y = V.ref a ∧ H a = some (.rng lo hi) ∧ Q (.bl (!decide (lo ≤ i ∧ i < hi))) H) := by
  intro pins s σ H x y v u Q I rx ry h
  obtain ⟨i, a, lo, hi, rfl, rfl, ha, q⟩ := h
  obtain ⟨k, rfl⟩ := rx
  obtain rfl : u = Value.ref a := ry
  obtain ⟨t1, t2, t3, ho⟩ := I.hok a _ ha
  show wpAny _ _ (do return Value.bool !(← contains (Value.ref a) (Value.int i k))) _ _ s
  refine wpAny_bind (wpAny_contains_slot (T := "range") ⟨_, ho, rfl⟩ F.slot_range_contains (call_meets F.slot_range_contains ⟨_, ho, rfl⟩ F.entry_range_contains (F.args_range_contains_2 _ _) (q_contains a lo hi i t1 t2 t3 k)
    ⟨ho, wpAny_truthy_bool (wpAny_pure ⟨.bl _, H, I, rfl, ?_⟩)⟩))
  rw [place1]
  exact q
def notRg : DV → DV → Option DV
  | .int i, .int n => some (.bl (!decide (0 ≤ i ∧ i < n)))
  | _, _ => none
section
variable {X : Cx} {E : L2.St → XK} {a b : Expr} {da db : DE}
theorem st_notInRg {p pos pos2 : Pos} (hg : Gl X "range") (hm : X.mg "range" = none) (ha : SE X E a da) (hb : SE X E b db)
    (he : starEach [b] X.env = (false, eval b X.env) :: starEach [] X.env := by rfl) (hpl : (backTo pos (starEach [] X.env)).any (·.1) = false := by rfl) (hmk : behindInMarks .NotIn (.Call (.Name "range" p) [b] [] pos) = false := by rfl) :
    ST X E (.Compare a [.NotIn] [.Call (.Name "range" p) [b] [] pos] pos2) (dOp notRg da db) :=
  (pt_cmpR op_notin_rng ha (pe_callTy cr_range1 hg hm boot_range (sa_cons hb sa_nil he) (by decide) (by decide) he hpl) hmk).weak fun s H Q h => by
  obtain ⟨Hb, ρ, F0, Fr, σ, h, R, x, k⟩ := tT_run h
  refine ⟨Hb, ρ, F0, Fr, σ, h, R, x, (Rz.bind k).imp (fun wa h1 k => ?_) fun _ _ z => z⟩
  intro Hb1 ρ1 H1 v1 s1 p1 R1 r1
  refine ⟨Hb1, ρ1, F0, Fr, σ, h1, R1, x.mono s1 p1, ?_⟩
  show Rz _ _ ((db σ h1).bind fun w h2 => (Res.ok [] h2).bind fun ws h3 => .ok (w :: ws) h3)
  refine Rz.mk ((Rz.bind k).imp (fun wb h2 k => ?_) (Pex.back s1 p1))
  obtain ⟨w, ew, kz⟩ := Rz.ofO k
  intro Hb2 ρ2 H2 vs s2 p2 R2 r2
  clear k
  unfold notRg at ew
  split at ew
  · rename_i i n
    cases ew
    cases r2 with
    | cons r2 rr =>
      cases rr
      have e1 := int_of r1
      have e2 := int_of r2
      subst e1
      subst e2
      refine ⟨n, rfl, fun c hc => ?_⟩
      obtain ⟨s3, R3⟩ := R2.new hc (.rng 0 n)
      exact ⟨i, c, 0, n, rfl, rfl, upd_same, kz _ ρ2 _ _ ((s1.trans s2).trans s3) (p1.trans p2) R3 (.per (.bl _))⟩
  · cases ew
end
end DL
namespace DL
open PySem PySem.Spec PyProof.Rows L2
def dGet2 (i : Nat) (dk dv : DE) : DE := fun σ h => (ofO (getM σ i) h).bind fun m h => (dk σ h).bind fun w h1 => (dv σ h1).bind fun y h2 => ofO ((keyD m w).map fun k => (lookD m k).getD y) h2
section
variable {X : Cx} {E : L2.St → XK} {e f o : Expr} {dk dv : DE}
theorem isD_of {K : PySem.W.Frag} {Hb : Hp} {ρ : List Addr} {H : Hp} {a : Addr} {u : HO} {m : DM} (hu : H a = some u) (d : DctR K Hb ρ u m) : IsD H a := by
  cases d with
  | I d => exact .inl ⟨_, Rd.of hu⟩
  | T d => exact .inr ⟨_, Rd.of hu⟩
theorem se_get2 {k i : Nat} {apos cpos : Pos} (hr : Room k X.A) (ho : PE X o (tVar i)) (hk : SE X E e dk) (hv : SE X E f dv) (mm : M2 X o "get" apos e f cpos) : SE X E (.Call (.Attribute o "get" apos) [e, f] [] cpos) (dGet2 i dk dv) :=
  (pe_dget2 (by have := hr.un; omega) ho hk hv mm).weak fun s H Q ⟨Hb, ρ, F0, Fr, σ, h, R, x, k⟩ => by
  obtain ⟨m, em, k⟩ := Rz.ofO (Rz.bind k)
  obtain ⟨_, a, u, es, fu, _, d⟩ := slot_dct x em
  refine ⟨.ref a, es, a, rfl, isD_of (R.fr _ _ fu) d, Hb, ρ, F0, Fr, σ, h, R, x, (Rz.bind k).imp (fun w h1 k => ?_) fun _ _ z => z⟩
  intro Hb1 ρ1 H1 y s1 p1 R1 r1
  refine ⟨Hb1, ρ1, F0, Fr, σ, h1, R1, x.mono s1 p1, (Rz.bind k).imp (fun z h2 k => ?_) (Pex.back s1 p1)⟩
  intro Hb2 ρ2 H2 zv s2 p2 R2 r2
  obtain ⟨w', ew, k⟩ := Rz.ofO k
  obtain ⟨ky, ek, ez⟩ := Option.map_eq_some_iff.mp ew
  subst ez
  have d2 := (d.mono s1 p1).mono s2 p2
  rcases dget_of R2 (R2.fr _ _ fu) d2 (r1.mono s2 p2 (Same.refl _)) ek with ⟨g, l⟩ | ⟨v, z', g, l, rz⟩
  · refine ⟨none, g, ?_⟩
    rw [l] at k
    exact Pst.same R2 (Pst.back (s1.trans s2) (p1.trans p2) _ _ k) r2
  · refine ⟨some v, g, ?_⟩
    rw [l] at k
    exact Pst.same R2 (Pst.back (s1.trans s2) (p1.trans p2) _ _ k) (.per rz)
def tSumVals (td : TE) : TE := fun σ H Q => td σ H fun x H1 => ∃ (a : Addr) (kvs : List (Key × V)) (is : List Int), x = V.ref a ∧ H1 a = some (.dK kvs) ∧ kvs.map (·.2) = is.map V.int ∧ Q (.int is.sum) H1
theorem preSum_list : ∀ is : List Int, preSum (fun i => is.getD i 0) is.length = is.sum := fun is => by
  have h : ∀ n, n ≤ is.length → preSum (fun i => is.getD i 0) n = (is.take n).sum := fun n => by
    induction n with
    | zero => intro _; simp [preSum]
    | succ n ih =>
      intro hn
      rw [preSum, ih (by omega), List.take_succ]
      have : is[n]? = some (is.getD n 0) := by
        rw [List.getD_eq_getElem?_getD, List.getElem?_eq_getElem (by omega)]
        rfl
      rw [this]
      simp
  rw [h _ (Nat.le_refl _), List.take_length]
theorem pe_sumVals {p pos apos mpos : Pos} {td : TE} (hc : X.calm = true) (hg : Gl X "sum") (hm : X.mg "sum" = none) (hd : PE X o td) (hbase : attributeBase o "values" X.env (eval o X.env) = eval o X.env := by rfl) (hline : (apos.endLine == mpos.line) = true := by rfl)
    (hse : starEach [Expr.Call (.Attribute o "values" apos) [] [] mpos] X.env = [(false, eval (Expr.Call (.Attribute o "values" apos) [] [] mpos) X.env)] := by rfl) :
    PE X (.Call (.Name "sum" p) [.Call (.Attribute o "values" apos) [] [] mpos] [] pos) (tSumVals td) := by
  refine ⟨fun pins s σ H Q I h => ?_⟩
  refine wpAny_Call_Name_kw (ld_blt I hg hm (u := .builtin "sum") (by first | rfl | decide +kernel) ?_ (by first | decide +kernel | decide) (by first | decide +kernel | decide))
  rw [hse]
  refine PySem.callWith_builtin1 (wpAny_Call_method0_late hbase hline (thn (hd.run pins s σ H _ I h) fun v s1 ⟨x, H1, I1, r1, a, kvs, is, ex, ha, hv, q⟩ => ?_))
  subst ex
  obtain rfl : v = Value.ref a := r1
  obtain ⟨_, hsys, vs, rel, dof⟩ := dk_of I1.hok ha
  obtain ⟨ep, dat⟩ := dof.dictAt
  have dat' := dat
  obtain ⟨ob, es, ho, ex, hdat, hko, hpr, hnd⟩ := dat'
  refine ⟨"dict", "dict.values", F.plainAttrs_dict, F.slot_dict_values, F.type_dict_values, ⟨ob, ho, ex.1⟩, fun b e => ?_, Calls.callWith_builtin rfl (PySem.evalArgs_none ?_)⟩
  · cases e
    exact ⟨ob, ho, ex.2.1⟩
  refine call_meetsIn F.slot_dict_values ⟨ob, ho, ex.1⟩ F.entry_dict_values (F.args_dict_values_1 _) (meets_dict_values (mixKind X.prog X.w) a hsys) ⟨⟨vs, dof⟩, ?_⟩
  have k1 : ∀ b u, s1.heap.get? b = some u → (s1.heap.push { cls := .type "dict_values", data := .fields #[.ref a] }).get? b = some u := fun b u e => Heap.get?_push_of_some _ e
  have dat1 : (s1.heap.push { cls := .type "dict_values", data := .fields #[.ref a] }).DictAt (mixKind X.prog X.w) a vs ep := dat.keep k1
  have hlv : vs.length = is.length := by
    have e1 := congrArg List.length hv
    rw [List.length_map, List.length_map] at e1
    rw [← e1]
    exact (KV.length rel).symm
  have hval : ∀ (i : Nat) (v : Value), (∃ k, vs[i]? = some (k, v)) → ∃ t, v = Value.int (is.getD i 0) t := fun i v ⟨k, hk⟩ => by
    obtain ⟨x, h1, h2⟩ := KV.at' rel hk
    have e1 : (kvs.map (·.2))[i]? = some x := by rw [List.getElem?_map, h1] <;> rfl
    rw [hv, List.getElem?_map] at e1
    obtain ⟨j, hj, e2⟩ := Option.map_eq_some_iff.mp e1
    subst e2
    obtain ⟨t, e3⟩ := h2
    refine ⟨t, ?_⟩
    rw [e3, List.getD_eq_getElem?_getD, hj] <;> rfl
  refine call_sum_walkAnyS (wpAny_pyIter_values (v := s1.heap.objs.size) (d := a) ⟨_, Heap.get?_push_size _ rfl, rfl, rfl⟩ dat1 ?_)
  have hlt : a < s1.heap.objs.size := Heap.lt_size ho
  have hsz : (s1.heap.push { cls := .type "dict_values", data := .fields #[.ref a] }).objs.size = s1.heap.objs.size + 1 := Heap.size_push _ _
  refine ⟨_, _, _, _, _, _, _, (fun i => is.getD i 0), rfl, (Walks.dictValues (knd := mixKind X.prog X.w) (A := X.A.in1) (I1.ok.hd hc) (s1.heap.push { cls := .type "dict_values", data := .fields #[.ref a] }).objs.size a (by rw [hsz]; exact Nat.ne_of_lt (Nat.lt_succ_of_lt hlt)) vs ep).toS,
    ⟨⟨_, Heap.get?_push_size _ rfl, rfl, rfl⟩, dat1.keep fun b u e => Heap.get?_push_of_some _ e⟩, fun b hb => ?_, hval, fun s' t' hmv => ?_⟩
  · show b < ((s1.heap.push _).push _).objs.size
    rw [Heap.size_push, Heap.size_push]
    rw [hsz] at hb
    rcases List.mem_cons.mp hb with e | hb
    · rw [e]
      exact Nat.lt_succ_self _
    · have e : b = a := List.mem_singleton.mp hb
      rw [e]
      exact Nat.lt_succ_of_lt (Nat.lt_succ_of_lt hlt)
  · rw [Moved.eq_with hmv, hlv, preSum_list]
    refine ⟨.int is.sum, H1, I1.kept (t' := _) fun b u e => hmv.heap b u (fun hmem => ?_) (Heap.get?_push_of_some _ (k1 b u e)), ⟨t', rfl⟩, q⟩
    have e1 : b = (s1.heap.push { cls := .type "dict_values", data := .fields #[.ref a] }).objs.size := List.mem_singleton.mp hmem
    have e2 := Heap.lt_size e
    rw [hsz] at e1
    rw [e1] at e2
    exact absurd e2 (Nat.not_lt.mpr (Nat.le_succ _))
def sumM (m : DM) : Option DV := match m with
  | .I kvs => (allI (kvs.map (·.2))).map fun xs => .int xs.sum
  | .T _ => none
def dSumVals (i : Nat) : DE := fun σ h => ofO ((getM σ i).bind sumM) h
theorem kvr_ints {K : PySem.W.Frag} {Hb : Hp} {ρ : List Addr} {l : List (Key × V)} : ∀ {kvs : List (Int × DV)} {xs : List Int}, KvR K Hb ρ kI l kvs → allI (kvs.map (·.2)) = some xs → l.map (·.2) = xs.map V.int := by
  intro kvs xs r
  induction r generalizing xs with
  | nil => intro e; cases e; rfl
  | cons r t ih =>
    rename_i k v w l m
    intro e
    obtain ⟨i, e1, e⟩ := Option.bind_eq_some_iff.mp e
    obtain ⟨is, e2, e⟩ := Option.map_eq_some_iff.mp e
    subst e
    cases w with
    | int j =>
      cases e1
      cases r
      rw [List.map_cons, ih e2]
      rfl
    | _ => cases e1
theorem se_sumVals {i : Nat} {p pos apos mpos : Pos} (hc : X.calm = true) (hg : Gl X "sum") (hm : X.mg "sum" = none) (ho : PE X o (tVar i)) (hbase : attributeBase o "values" X.env (eval o X.env) = eval o X.env := by rfl) (hline : (apos.endLine == mpos.line) = true := by rfl)
    (hse : starEach [Expr.Call (.Attribute o "values" apos) [] [] mpos] X.env = [(false, eval (Expr.Call (.Attribute o "values" apos) [] [] mpos) X.env)] := by rfl) :
    SE X E (.Call (.Name "sum" p) [.Call (.Attribute o "values" apos) [] [] mpos] [] pos) (dSumVals i) :=
  (pe_sumVals hc hg hm ho hbase hline hse).weak fun s H Q ⟨Hb, ρ, F0, Fr, σ, h, R, x, k⟩ => by
  obtain ⟨w, ew, k⟩ := Rz.ofO k
  obtain ⟨m, em, ew⟩ := Option.bind_eq_some_iff.mp ew
  obtain ⟨_, a, u, es, fu, _, d⟩ := slot_dct x em
  cases d with
  | I d =>
    obtain ⟨xs, ex, ew⟩ := Option.map_eq_some_iff.mp ew
    subst ew
    exact ⟨.ref a, es, a, _, xs, rfl, R.fr _ _ fu, kvr_ints d ex, Pst.same R k (.per (.int _))⟩
  | T d => cases ew
end
end DL
namespace DL
open PySem PySem.Spec PyProof.Rows L2
theorem pe_callS0 {X : Cx} {E : L2.St → XK} {x : Str} {p pos : Pos} {k : Nat} {f : Addr} {fd : FuncData} {ps : List Str} {sp : Sp} (F : FnOk X.prog X.w X.K X.mg X.base (L2.CX X.prog X.w) k f fd ps sp) (hr : Room k X.A) (hg : Gl X x) (hm : X.mg x = some (.ref f)) (hk : PySem.W.keepIn X.K (.ref f) = true) (hb : L2.Binds X.K fd ps []) (hx : ∀ σ, PassesAt (L2.CX X.prog X.w) X σ (E σ))
    (hdb : (x == ("__debug__" : Str)) = false := by decide) : PE X (.Call (.Name x p) [] [] pos) (tCallS sp E tNil) := by
  refine ⟨fun pins s σ H Q I h => ?_⟩
  refine wpAny_Call_Name_kw (ld_glob I hg hm ?_ hdb)
  exact PySem.W.callWith_K0 I.kIn hk (run_fnS (us := []) F hr hb (hx σ) I .nil h)
theorem se_own0 {X : Cx} {E : L2.St → XK} {x : Str} {p pos : Pos} {k j : Nat} {F : Fn} (hx : ∀ σ, PassesAt (L2.CX X.prog X.w) X σ (E σ)) (hf : DefOk X.prog X.w X.K X.mg X.base x k 0 F) (hr : Room j X.A) (hj : k ≤ j) (hg : Gl X x) (hdb : (x == ("__debug__" : Str)) = false := by decide) :
    SE X E (.Call (.Name x p) [] [] pos) (dCall 0 F daNil) := by
  obtain ⟨f, fd, ps, h1, h2, h3, h4⟩ := hf.ex
  refine (pe_callS0 h1 (hr.mono hj) hg h2 h3 h4 hx hdb).weak fun s H Q ⟨Hb, ρ, F0, Fr, σ, h, R, x, k⟩ => ?_
  exact ⟨rfl, Hb, ρ, Fr, h, [], R, .nil, Rz.imp (r := F [] h) k (fun w h2 q Hb' ρ' H' v s2 p2 R2 r2 => q Hb' ρ' H' v s2 p2 R2 (.per r2)) fun _ _ z => z⟩
end DL
namespace SN
open PySem PySem.Spec PyProof.Rows PySem.SeqAt L2
mutual
def bare : NestedKey → Bool
  | .text _ => false
  | .tup ks => bares ks
  | _ => true
def bares : List NestedKey → Bool
  | [] => true
  | k :: ks => bare k && bares ks
end
section
variable {P : Program} {w : World}
def ByVal (P : Program) (w : World) (n : Nat) (s : Shared) (v : Value) : Prop := ∀ (A : Around) (E : Value → Shared → Prop) (Q : Bool → Shared → Prop), Q true s → wpAny (model P w) A (hashByValue n v) Q E s
def NoCls (P : Program) (w : World) (n : Nat) (s : Shared) (v : Value) : Prop := ∀ (A : Around) (E : Value → Shared → Prop) (Q : Bool → Shared → Prop), Q false s → wpAny (model P w) A (ofAClassStatement n v) Q E s
theorem ByVal.tup {n m : Nat} {s : Shared} {a : Addr} {o : Obj} {vs : Array Value} (ho : s.heap.get? a = some o) (hc : o.cls = .type "tuple") (hd : o.data = .seq vs m) (hv : ∀ v ∈ vs.toList, ByVal P w n s v) : ByVal P w (n + 1) s (.ref a) := fun A E Q q => by
  unfold hashByValue
  refine wpAny_bind (wpAny_specialOf (T := "tuple") ⟨o, ho, hc⟩ F.slot_tuple_hash.lookup ?_)
  refine wpAny_bind (wpAny_seqItems ho hd ?_)
  refine wpAny_bind ?_
  rw [Option.getD_some, ← Array.forIn_toList]
  refine wpAny_forIn_list _ (fun left st s1 => st.1 = none ∧ s1 = s ∧ ∀ v ∈ left, ByVal P w n s v) _ (fun v left st s1 z => ?_) (fun st s1 z => ?_) _ _ ⟨rfl, rfl, hv⟩
  · obtain ⟨_, rfl, all⟩ := z
    refine wpAny_bind (all v List.mem_cons_self _ _ _ ?_)
    exact wpAny_pure ⟨rfl, rfl, fun u hu => all u (List.mem_cons_of_mem _ hu)⟩
  · obtain ⟨st1, st2⟩ := st
    obtain ⟨e, rfl, _⟩ := z
    cases (show st1 = none from e)
    exact wpAny_pure q
theorem NoCls.tup {n m : Nat} {s : Shared} {a : Addr} {o : Obj} {vs : Array Value} (ho : s.heap.get? a = some o) (hc : o.cls = .type "tuple") (hd : o.data = .seq vs m) (hv : ∀ v ∈ vs.toList, NoCls P w n s v) : NoCls P w (n + 1) s (.ref a) := fun A E Q q => by
  unfold ofAClassStatement
  refine wpAny_bind (wpAny_typeOf (T := "tuple") ⟨o, ho, hc⟩ ?_)
  have e : (("tuple" : String) == "tuple") = true := by decide
  simp only [e, if_true, Bool.not_true, Bool.false_eq_true, if_false]
  refine wpAny_bind (wpAny_pure ?_)
  simp only [Bool.not_true, Bool.false_eq_true, if_false]
  refine wpAny_bind (wpAny_seqItems ho hd ?_)
  refine wpAny_bind ?_
  show wpAny _ _ (forIn vs _ _) _ _ s
  rw [← Array.forIn_toList]
  refine wpAny_forIn_list _ (fun left st s1 => st.1 = none ∧ s1 = s ∧ ∀ v ∈ left, NoCls P w n s v) _ (fun v left st s1 z => ?_) (fun st s1 z => ?_) _ _ ⟨rfl, rfl, hv⟩
  · obtain ⟨_, rfl, all⟩ := z
    refine wpAny_bind (all v List.mem_cons_self _ _ _ ?_)
    exact wpAny_pure ⟨rfl, rfl, fun u hu => all u (List.mem_cons_of_mem _ hu)⟩
  · obtain ⟨st1, st2⟩ := st
    obtain ⟨e, rfl, _⟩ := z
    cases (show st1 = none from e)
    exact wpAny_pure q
mutual
theorem by_key : ∀ (k : NestedKey) (v : Value) (n : Nat) (s : Shared), NestedIs s.heap k v → k.depth ≤ n → bare k = true → ByVal P w n s v
  | .none, _, n, s, x, _, _ => by cases x; exact fun A E Q q => by cases n <;> exact wpAny_pure q
  | .num i, _, n, s, x, _, _ => by cases x <;> exact fun A E Q q => by cases n <;> exact wpAny_pure q
  | .text y, _, n, s, x, _, hb => nomatch hb
  | .tup ks, _, n, s, x, hn, hb => by
    cases x with
    | tup hg hc hd hk =>
      simp only [NestedKey.depth] at hn
      cases n with
      | zero => omega
      | succ n => exact .tup hg hc hd (by_keys ks _ n s hk (by omega) hb)
theorem by_keys : ∀ (ks : List NestedKey) (vs : List Value) (n : Nat) (s : Shared), NestedAll s.heap ks vs → NestedKey.depthAll ks ≤ n → bares ks = true → ∀ v ∈ vs, ByVal P w n s v
  | [], _, n, s, x, _, _, v, hv => by cases x; cases hv
  | k :: ks, _, n, s, x, hn, hb, v, hv => by
    obtain ⟨b1, b2⟩ := Bool.and_eq_true_iff.mp (show (bare k && bares ks) = true from hb)
    cases x with
    | cons x1 x2 =>
      simp only [NestedKey.depthAll] at hn
      rcases List.mem_cons.mp hv with e | hv
      · rw [e]; exact by_key k _ n s x1 (by omega) b1
      · exact by_keys ks _ n s x2 (by omega) b2 v hv
end
mutual
theorem no_key : ∀ (k : NestedKey) (v : Value) (n : Nat) (s : Shared), NestedIs s.heap k v → k.depth ≤ n → NoCls P w n s v
  | .none, _, n, s, x, _ => by cases x; exact fun A E Q q => by cases n <;> exact wpAny_pure q
  | .num i, _, n, s, x, _ => by cases x <;> exact fun A E Q q => by cases n <;> exact wpAny_pure q
  | .text y, _, n, s, x, _ => by cases x; exact fun A E Q q => by cases n <;> exact wpAny_pure q
  | .tup ks, _, n, s, x, hn => by
    cases x with
    | tup hg hc hd hk =>
      simp only [NestedKey.depth] at hn
      cases n with
      | zero => omega
      | succ n => exact .tup hg hc hd (no_keys ks _ n s hk (by omega))
theorem no_keys : ∀ (ks : List NestedKey) (vs : List Value) (n : Nat) (s : Shared), NestedAll s.heap ks vs → NestedKey.depthAll ks ≤ n → ∀ v ∈ vs, NoCls P w n s v
  | [], _, n, s, x, _, v, hv => by cases x; cases hv
  | k :: ks, _, n, s, x, hn, v, hv => by
    cases x with
    | cons x1 x2 =>
      simp only [NestedKey.depthAll] at hn
      rcases List.mem_cons.mp hv with e | hv
      · rw [e]; exact no_key k _ n s x1 (by omega)
      · exact no_keys ks _ n s x2 (by omega) v hv
end
structure At (h : Heap) (k : NestedKey) (a : Addr) : Prop where
  is : NestedIs h k (.ref a)
  dep : k.depth ≤ 8
  bare : bare k = true
variable {A : Around} {E : Value → Shared → Prop} {s : Shared}
theorem unseen {k : NestedKey} {b : Addr} (hk : At s.heap k b) {Q : Bool → Shared → Prop} : ∀ {ys : List Value}, (∀ y ∈ ys, ∃ k' c, y = Value.ref c ∧ At s.heap k' c) → Q false s → wpAny (model P w) A (searchCouldBeSeen (.ref b) ys) Q E s := fun {ys} hy q => by
  unfold searchCouldBeSeen
  refine wpAny_bind (wpAny_forIn_list _ (fun left st s1 => st.1 = none ∧ s1 = s ∧ ∀ y ∈ left, ∃ k' c, y = Value.ref c ∧ At s.heap k' c) _ (fun y left st s1 z => ?_) (fun st s1 z => ?_) _ _ ⟨rfl, rfl, hy⟩)
  · obtain ⟨_, rfl, all⟩ := z
    obtain ⟨k', c, rfl, hc⟩ := all y List.mem_cons_self
    have more := fun u hu => all u (List.mem_cons_of_mem _ hu)
    by_cases same : (b == c || (carriedByValue (.ref b) && carriedByValue (.ref c))) = true
    · exact wp_if_pos same (wpAny_pure ⟨rfl, rfl, more⟩)
    · refine wp_if_neg same (wpAny_bind (quiet_key k _ 8 _ hk.is hk.dep _ _ _ ?_))
      refine wpAny_bind (quiet_key k' _ 8 _ hc.is hc.dep _ _ _ ?_)
      refine wpAny_bind (no_key k _ 8 _ hk.is hk.dep _ _ _ ?_)
      refine wpAny_bind (no_key k' _ 8 _ hc.is hc.dep _ _ _ ?_)
      exact wpAny_pure ⟨rfl, rfl, more⟩
  · obtain ⟨st1, st2⟩ := st
    obtain ⟨e, rfl, _⟩ := z
    cases (show st1 = none from e)
    exact wpAny_pure q
end
end SN
namespace SN
open PySem PySem.Spec PyProof.Rows PySem.SeqAt L2
abbrev ent (w : World) (p : Addr × NestedKey) : Int × Value := (p.2.hash w, Value.ref p.1)
abbrev spot (m : Nat) (g : Int) (c : Nat) : SetTable.Probe := nth m (runAt m (SetTable.bits g % (m + 1)) (SetTable.bits g)) c
structure Holds (P : Program) (w : World) (h : Heap) (a : Addr) (L : List (Addr × NestedKey)) (es : Array (Int × Value)) (ep : Nat) (t : SetTable) : Prop where
  obj : ∃ o, h.get? a = some o ∧ o.ExactSet ∧ o.data = .set es ep t
  ents : es.toList = L.map (ent w)
  tab : TabOk t (L.map fun p => p.2.hash w)
  nd : (L.map (·.2)).Nodup
  keys : ∀ p ∈ L, At h p.2 p.1
  plain : t.plain = true
  led : w.params.followText "set-order" = true ∨ t.led = true
  room : L.length * 5 < t.mask * 3
  few : L.length < 64
section
variable {P : Program} {w : World} {A : Around} {E : Value → Shared → Prop} {s : Shared} {a : Addr} {L : List (Addr × NestedKey)} {es : Array (Int × Value)} {ep : Nat} {t : SetTable}
theorem ents_size (e : es.toList = L.map (ent w)) : es.size = L.length := by
  rw [← Array.length_toList, e, List.length_map]
theorem Holds.size (R : Holds P w s.heap a L es ep t) : es.size = L.length := ents_size R.ents
theorem Holds.places (R : Holds P w s.heap a L es ep t) : t.place.size = L.length := by have := R.tab.sz; rwa [List.length_map] at this
theorem fits_of {n : Nat} (h1 : t.place.size = n) (h2 : t.dummies = #[]) (h3 : n ≤ t.mask) : t.fits n = true := by
  unfold SetTable.fits SetTable.fill
  rw [h2, Bool.and_eq_true]
  exact ⟨beq_iff_eq.mpr h1, decide_eq_true (by show t.place.size + 0 ≤ t.mask; omega)⟩
theorem Holds.fits (R : Holds P w s.heap a L es ep t) : t.fits es.size = true := by
  have h1 := R.places
  have h2 := R.size
  have h3 := R.room
  exact fits_of (by omega) R.tab.dm (by omega)
theorem ent_at (e : es.toList = L.map (ent w)) {i : Nat} {p : Addr × NestedKey} (h : L[i]? = some p) : es[i]? = some (ent w p) := by
  rw [← Array.getElem?_toList, e, List.getElem?_map, h]; rfl
theorem spot_add (m : Nat) (g : Int) (c q : Nat) : nth m (spot m g c) q = spot m g (c + q) := (nth_add m c _ q).symm
theorem spot_dummy (m : Nat) (g : Int) (c : Nat) : (spot m g c).dummy = none := by
  have step : ∀ (n : Nat) (p : SetTable.Probe), p.dummy = none → (nth m p n).dummy = none := fun n => by
    induction n with
    | zero => exact fun p h => h
    | succ n ih => exact fun p h => ih _ (by unfold adv; split <;> exact h)
  exact step c _ rfl
theorem find_from (R : Holds P w s.heap a L es ep t) {x : Addr} {k : NestedKey} (hx : At s.heap k x) (hu : A.units + 8 < cLine) {n : Nat} (hn : n < 10 * SetTable.turns t.mask)
    (free : way t.mask (k.hash w) n ∉ t.place.toList) (full : ∀ c, c < n → way t.mask (k.hash w) c ∈ t.place.toList) {Q : SetFound → Shared → Prop}
    (yes : k ∈ L.map (·.2) → Q (.there none) s) (no : k ∉ L.map (·.2) → Q (.free (way t.mask (k.hash w) n) false) s) :
    ∀ (f c : Nat) (stand : Option SetTable.Probe), stand.getD (t.probeStart (k.hash w)) = spot t.mask (k.hash w) c → c ≤ n → n < f + c →
      (∀ (i : Nat) p, L[i]? = some p → p.2 = k → ∃ c', c ≤ c' ∧ c' < n ∧ t.place.toList[i]? = some (way t.mask (k.hash w) c')) →
      wpAny (model P w) A (setSearchFrom a (.ref x) (k.hash w) true f stand) Q E s := by
  intro f
  induction f with
  | zero => intro c _ _ h1 h2; omega
  | succ f ih =>
    intro c stand here hc hf later
    obtain ⟨o, ho, hex, hd⟩ := R.obj
    have gw : ¬ t.gaveWay = true := by unfold SetTable.gaveWay; rw [mask_odd R.tab.mok]; decide
    have hashes : ∀ (i : Nat) p, L[i]? = some p → (fun i => (es[i]?.map (·.1)).getD 0) i = p.2.hash w := fun i p hp => by
      show (es[i]?.map (·.1)).getD 0 = _
      rw [ent_at R.ents hp]; rfl
    have hits : ∀ (i0 : Nat) (p0 : Addr × NestedKey), L[i0]? = some p0 → p0.2 = k → ∀ c' : Nat, c ≤ c' → t.place.toList[i0]? = some (way t.mask (k.hash w) c') → t.place.toList[i0]? = some (nth t.mask (spot t.mask (k.hash w) c) (c' - c)).j ∧ (fun i : Nat => (es[i]?.map (·.1)).getD 0) i0 = k.hash w := fun i0 p0 h0 hk0 c' hcc h3 => by
      refine ⟨?_, by rw [hashes i0 p0 h0, hk0]⟩
      rw [spot_add, show c + (c' - c) = c' by omega]; exact h3
    have spec := go_spec t R.tab.ris R.tab.dm (fun i => (es[i]?.map (·.1)).getD 0) (k.hash w) (10 * SetTable.turns t.mask) (n - c) (spot t.mask (k.hash w) c) (spot_dummy _ _ _) (by omega)
      (fun q hq => by rw [spot_add]; exact full (c + q) (by omega)) (by rw [spot_add, show c + (n - c) = n by omega]; exact free)
    rw [setSearchFrom_succ]
    refine wpAny_bind (wpAny_setState_of ho hd R.fits ?_)
    refine wp_if_neg gw ?_
    rw [here]
    rcases spec with ⟨q, i, hq, hi, hh, before, hp⟩ | ⟨never, hp⟩
    · have hp' : t.probe (fun i => (es[i]?.map (·.1)).getD 0) (k.hash w) (spot t.mask (k.hash w) c) = some (.candidate (way t.mask (k.hash w) (c + q)) i (spot t.mask (k.hash w) (c + (q + 1)))) := by
        have := hp
        rw [spot_add, spot_add] at this
        exact this
      rw [hp']
      rw [spot_add] at hi
      have hi' : t.place.toList[i]? = some (way t.mask (k.hash w) (c + q)) := hi
      have hil : i < L.length := by
        have h1 := (List.getElem?_eq_some_iff.mp hi).1
        rw [Array.length_toList, R.places] at h1
        exact h1
      obtain ⟨p, hpi⟩ : ∃ p, L[i]? = some p := ⟨_, List.getElem?_eq_getElem hil⟩
      have hpm := List.mem_of_getElem? hpi
      have hpk := R.keys p hpm
      have live : t.slot (way t.mask (k.hash w) (c + q)) = .live i := slot_live R.tab.ris hi'
      have go : wpAny (model P w) A (searchRest a (.ref x) (k.hash w) true f es t (way t.mask (k.hash w) (c + q)) i (spot t.mask (k.hash w) (c + (q + 1)))) Q E s := by
        unfold searchRest
        rw [ent_at R.ents hpi]
        refine wpAny_bind (wpAny_holding (eqAt_key p.2 k A s _ _ hpk.is hx.is (by have := hpk.dep; omega) _ _ _ _ ?_))
        refine wpAny_bind (wpAny_setState_of ho hd R.fits ?_)
        rw [← NestedKey.decide_eq]
        by_cases e : p.2 = k
        · refine wp_if_pos (by simp [e]) (wpAny_pure (yes ?_))
          exact List.mem_map.mpr ⟨p, hpm, e⟩
        · refine wp_if_neg (by simp [e]) ?_
          rw [sameMem]
          simp only [if_true, live, ent_at R.ents hpi]
          refine wpAny_bind (wpAny_isSame_ref_self (wpAny_bind (wpAny_pure ?_)))
          simp only [if_true]
          refine wp_if_neg (by simp [e]) ?_
          refine ih (c + (q + 1)) _ rfl (by omega) (by omega) fun i0 p0 h0 hk0 => ?_
          obtain ⟨c', h1, h2, h3⟩ := later i0 p0 h0 hk0
          obtain ⟨g1, g2⟩ := hits i0 p0 h0 hk0 c' h1 h3
          refine ⟨c', ?_, h2, h3⟩
          rcases Nat.lt_or_ge (c' - c) q with l | l
          · exact absurd g2 (before _ i0 l g1)
          · rcases Nat.lt_or_ge q (c' - c) with r | r
            · omega
            · have ec : c' = c + q := by omega
              rw [ec] at h3
              have same := slot_live R.tab.ris h3
              rw [live] at same
              have ei : i = i0 := by injection same
              subst ei
              rw [hpi] at h0
              cases h0
              exact absurd hk0 e
      by_cases hl : t.led = true
      · exact wp_if_neg (by simp [hl]) go
      · refine wp_if_pos (by simp [hl]) (wpAny_bind (unseen hx (fun y hy => ?_) ?_))
        · obtain ⟨e, he, rfl⟩ := List.mem_map.mp hy
          have he : e ∈ es ∧ e.1 = k.hash w := by simpa using he
          have he2 : e ∈ es.toList := by simpa using he.1
          rw [R.ents] at he2
          obtain ⟨p2, h2, rfl⟩ := List.mem_map.mp he2
          exact ⟨p2.2, p2.1, rfl, R.keys p2 h2⟩
        · exact wp_if_neg (by decide) go
    · have hp' : t.probe (fun i => (es[i]?.map (·.1)).getD 0) (k.hash w) (spot t.mask (k.hash w) c) = some (.empty (way t.mask (k.hash w) n) none) := by
        have := hp
        rw [spot_add, show c + (n - c) = n by omega] at this
        exact this
      rw [hp']
      refine wpAny_pure (no fun hm => ?_)
      obtain ⟨p0, h0, hk0⟩ := List.mem_map.mp hm
      obtain ⟨i0, hi0⟩ := List.getElem?_of_mem h0
      obtain ⟨c', h1, h2, h3⟩ := later i0 p0 hi0 hk0
      obtain ⟨g1, g2⟩ := hits i0 p0 hi0 hk0 c' h1 h3
      exact never _ i0 (by omega) g1 g2
theorem find (R : Holds P w s.heap a L es ep t) {x : Addr} {k : NestedKey} (hx : At s.heap k x) (hu : A.units + 8 < cLine) {Q : SetFound → Shared → Prop}
    (yes : k ∈ L.map (·.2) → Q (.there none) s)
    (no : ∀ n, k ∉ L.map (·.2) → way t.mask (k.hash w) n ∉ t.place.toList → (∀ c, c < n → way t.mask (k.hash w) c ∈ t.place.toList) → Q (.free (way t.mask (k.hash w) n) false) s) :
    wpAny (model P w) A (setSearch a (.ref x) (k.hash w) true) Q E s := by
  have room := R.room
  obtain ⟨n, h1, h2, h3⟩ := R.tab.first (by rw [List.length_map]; omega) (k.hash w)
  have small : 10 * SetTable.turns t.mask ≤ 1420 := by
    unfold SetTable.turns
    rcases R.tab.mok with e | e | e <;> omega
  unfold setSearch
  refine find_from R hx hu h1 h2 h3 yes (fun hn => no n hn h2 h3) 100000 0 none rfl (Nat.zero_le _) (by omega) fun i p hp hk => ?_
  have il : i < t.place.toList.length := by rw [Array.length_toList, R.places]; exact (List.getElem?_eq_some_iff.mp hp).1
  have hj := List.getElem?_eq_getElem il
  obtain ⟨c, hc, e⟩ := R.tab.before h2 (show (L.map fun p => p.2.hash w)[i]? = some (k.hash w) by rw [List.getElem?_map, hp, ← hk]; rfl) hj
  exact ⟨c, Nat.zero_le _, hc, by rw [hj, e]⟩
end
end SN
namespace SN
open PySem PySem.Spec PyProof.Rows PySem.SeqAt L2
theorem gather {α : Type} (L : List α) : ∀ n, n ≤ L.length → (List.range n).filterMap (fun i => L[i]?) = L.take n
  | 0, _ => rfl
  | n + 1, h => by
    rw [List.range_succ, List.filterMap_append, gather L n (by omega), List.filterMap_cons_some (List.getElem?_eq_getElem h), List.take_succ, List.getElem?_eq_getElem h]
    rfl
theorem by_order {α : Type} {f : α → Int × Value} {L : List α} {es : Array (Int × Value)} {order : Array Nat} (he : es.toList = L.map f) (hp : order.toList.Perm (List.range L.length)) :
    ∃ L2 : List α, (order.filterMap (es[·]?)).toList = L2.map f ∧ L2.Perm L ∧ (L2.map fun a => (f a).1) = order.toList.map fun i => (es.map (·.1)).getD i 0 := by
  have at' : ∀ i, es[i]? = (L[i]?).map f := fun i => by rw [← Array.getElem?_toList, he, List.getElem?_map]
  have small : ∀ i ∈ order.toList, i < L.length := fun i hi => List.mem_range.mp (hp.mem_iff.mp hi)
  have walk : ∀ l : List Nat, (∀ i ∈ l, i < L.length) → l.filterMap (fun i => es[i]?) = (l.filterMap fun i => L[i]?).map f ∧ ((l.filterMap fun i => L[i]?).map fun a => (f a).1) = l.map fun i => (es.map (·.1)).getD i 0 := fun l => by
    induction l with
    | nil => exact fun _ => ⟨rfl, rfl⟩
    | cons i l ih =>
      intro hl
      obtain ⟨h1, h2⟩ := ih fun j hj => hl j (List.mem_cons_of_mem _ hj)
      have hi := List.getElem?_eq_getElem (hl i List.mem_cons_self)
      have hv : es[i]? = some (f (L[i]'(hl i List.mem_cons_self))) := by rw [at', hi]; rfl
      have hg : (es.map (·.1)).getD i 0 = (f (L[i]'(hl i List.mem_cons_self))).1 := by
        rw [Array.getD_eq_getD_getElem?, Array.getElem?_map, hv]; rfl
      rw [List.filterMap_cons_some hv, List.filterMap_cons_some hi, List.map_cons, List.map_cons, List.map_cons, h1, h2, hg]
      exact ⟨rfl, rfl⟩
  obtain ⟨h1, h2⟩ := walk order.toList small
  refine ⟨order.toList.filterMap fun i => L[i]?, by rw [Array.toList_filterMap]; exact h1, ?_, h2⟩
  have := hp.filterMap fun i => L[i]?
  rw [gather L L.length (Nat.le_refl _), List.take_length] at this
  exact this
section
variable {P : Program} {w : World} {A : Around} {E : Value → Shared → Prop} {s : Shared} {a : Addr} {L : List (Addr × NestedKey)} {es : Array (Int × Value)} {ep : Nat} {t : SetTable}
theorem At.grow {h h' : Heap} {k : NestedKey} {b : Addr} (x : At h k b) (hk : ∀ c o, h.get? c = some o → h'.get? c = some o) : At h' k b :=
  ⟨NestedIs.at (fun c o _ _ hc _ => hk c o hc) k _ x.is, x.dep, x.bare⟩
theorem At.apart {h h' : Heap} {k : NestedKey} {b : Addr} {o : Obj} (x : At h k b) (ho : h.get? a = some o) (hd : o.data = .set es ep t) (sb : Heap.SameBut a h h') : At h' k b :=
  ⟨NestedIs.at (fun c oc vs n hc hv => (sb.2 c fun e => by
    subst e
    rw [ho] at hc
    cases hc
    rw [hd] at hv
    cases hv).trans hc) k _ x.is, x.dep, x.bare⟩
theorem relay {o : Obj} (ho : s.heap.get? a = some o) (hex : o.ExactSet) (hd : o.data = .set es ep t) (he : es.toList = L.map (ent w)) (hp : t.place.size = L.length) (hm : t.dummies = #[]) (hf : L.length ≤ t.mask)
    (nd : (L.map (·.2)).Nodup) (keys : ∀ p ∈ L, At s.heap p.2 p.1) (pl : t.plain = true) (ld : w.params.followText "set-order" = true ∨ t.led = true) (few : L.length < 64) {wanted M : Nat}
    (hw : SetTable.sizeAbove wanted - 1 = M) (hM : MaskOk M) (hw2 : SetTable.sizeAbove wanted ≤ 128) (hn : L.length * 5 < M * 3) {Q : Unit → Shared → Prop}
    (q : ∀ h' L' es' ep' t', Heap.SameBut a s.heap h' → Holds P w h' a L' es' ep' t' → L'.Perm L → Q () { s with heap := h' }) : wpAny (model P w) A (setRelay a wanted) Q E s := by
  have size := ents_size he
  obtain ⟨t', order, e, hperm, T, tm, tl, tp, td⟩ := relaid_ok t (hs := es.map (·.1)) (wanted := wanted) hw hM (by rw [Array.size_map, size]; omega)
  rw [Array.size_map, size] at hperm
  obtain ⟨L2, r1, r2, r3⟩ := by_order he hperm
  rw [← r3] at T
  have size2 : (order.filterMap (es[·]?)).size = es.size := by rw [ents_size r1, r2.length_eq, size]
  rw [setRelay_eq]
  refine wpAny_bind (wpAny_setState_of ho hd (fits_of (by omega) hm (by omega)) ?_)
  refine wp_if_neg (by rw [sizeLine_eq]; omega) ?_
  rw [e]
  refine wpAny_bind (wp_if_neg (by rw [size2]; simp) (wpAny_pure ?_))
  refine wpAny_storeSet_of ho hd ?_ (by rw [size2, size, sizeLine_eq]; omega)
  have sb : Heap.SameBut a s.heap (s.heap.update a (Obj.putSet (order.filterMap (es[·]?)) t')) := Heap.SameBut.update ..
  exact q _ L2 (order.filterMap (es[·]?)) (ep + 1) t' sb ⟨⟨_, store_at ho hd, ⟨hex.1, hex.2.1, hex.2.2⟩, rfl⟩, r1, T, (r2.map (·.2)).nodup_iff.mpr nd, fun p hp => (keys p (r2.mem_iff.mp hp)).apart ho hd sb, by rw [tp]; exact pl, by rw [tl]; exact ld,
    by rw [r2.length_eq, tm]; exact hn, by rw [r2.length_eq]; exact few⟩ r2
theorem add (R : Holds P w s.heap a L es ep t) {x : Addr} {k : NestedKey} (hx : At s.heap k x) (hu : A.units + 8 < cLine) (few : L.length + 1 < 64) {Q : Bool → Shared → Prop}
    (q : ∀ b h' L' es' ep' t', Heap.SameBut a s.heap h' → Holds P w h' a L' es' ep' t' → (k ∈ L.map (·.2) → L' = L) → (k ∉ L.map (·.2) → L'.Perm ((x, k) :: L)) → Q b { s with heap := h' }) :
    wpAny (model P w) A (setAddHashed a (.ref x) (k.hash w)) Q E s := by
  obtain ⟨o, ho, hex, hd⟩ := R.obj
  have room := R.room
  have size := R.size
  unfold setAddHashed
  refine wpAny_holding ?_
  rw [show (100000 : Nat) = 99999 + 1 from rfl, setAddHashedIn_succ]
  refine wpAny_bind (wpAny_setState_of ho hd R.fits ?_)
  refine wp_if_neg (by simp [byScan, Value.scannable]) ?_
  refine wpAny_bind (find R hx hu (fun hm => wpAny_pure (q false s.heap L es ep t (Heap.SameBut.refl a s.heap) R (fun _ => rfl) fun z => absurd hm z)) fun n hm free full => ?_)
  refine wpAny_bind (wpAny_setState_of ho hd R.fits ?_)
  obtain ⟨p1, p2, p3, p4, p5, p6, _, _, p9⟩ := R.tab.put free full
  have plain1 : (t.put (way t.mask (k.hash w) n)).1.plain = true := by rw [p6]; exact R.plain
  have led1 : w.params.followText "set-order" = true ∨ (t.put (way t.mask (k.hash w) n)).1.led = true := by rw [p5]; exact R.led
  rw [List.length_map] at p2 p9
  generalize SetTable.below t.place (way t.mask (k.hash w) n) = j at *
  obtain ⟨t1, j1, ht1⟩ : ∃ t1 j1, t.put (way t.mask (k.hash w) n) = (t1, j1) := ⟨_, _, rfl⟩
  dsimp only
  rw [ht1] at p1 p3 p4 p9 plain1 led1 ⊢
  dsimp only at p1 p3 p4 p9 plain1 led1 ⊢
  have p1 : j1 = j := p1
  subst p1
  have perm := put_perm L j1 (x, k)
  have len1 : (L.take j1 ++ (x, k) :: L.drop j1).length = L.length + 1 := perm.length_eq
  have ents1 : (SetTable.insertAt es j1 (ent w (x, k))).toList = (L.take j1 ++ (x, k) :: L.drop j1).map (ent w) := by
    rw [SetTable.toList_insertAt, R.ents, List.map_append, List.map_cons, List.map_take, List.map_drop]
  have tab1 : TabOk t1 ((L.take j1 ++ (x, k) :: L.drop j1).map fun p => p.2.hash w) := by
    rw [List.map_append, List.map_cons, List.map_take, List.map_drop]
    exact p3
  have nd1 : ((L.take j1 ++ (x, k) :: L.drop j1).map (·.2)).Nodup := (perm.map (·.2)).nodup_iff.mpr (List.nodup_cons.mpr ⟨hm, R.nd⟩)
  generalize L.take j1 ++ (x, k) :: L.drop j1 = L1 at *
  refine wp_if_pos plain1 (wpAny_bind (by_key k _ 8 _ hx.is hx.dep hx.bare _ _ _ ?_))
  simp only [if_true]
  change wpAny _ _ (storeSet a (SetTable.insertAt es j1 (ent w (x, k))) t1 >>= _) _ _ _
  have size1 := ents_size ents1
  generalize SetTable.insertAt es j1 (ent w (x, k)) = es1 at *
  refine wpAny_bind (wpAny_storeSet_of ho hd ?_ (by rw [size1, sizeLine_eq]; omega))
  have sb : Heap.SameBut a s.heap (s.heap.update a (Obj.putSet es1 t1)) := Heap.SameBut.update ..
  have ho1 := store_at (es' := es1) (t' := t1) ho hd
  generalize s.heap.update a (Obj.putSet es1 t1) = h1 at *
  have keys1 : ∀ p ∈ L1, At h1 p.2 p.1 := fun p hp => by
    rcases List.mem_cons.mp (perm.mem_iff.mp hp) with e | hp
    · rw [e]; exact hx.apart ho hd sb
    · exact (R.keys p hp).apart ho hd sb
  have places1 : t1.place.size = L1.length := by have := tab1.sz; rwa [List.length_map] at this
  have full1 : t1.tooFull = true ↔ t1.mask * 3 ≤ (L.length + 1) * 5 := by
    unfold SetTable.tooFull
    rw [decide_eq_true_eq]
    show _ ≥ _ ↔ _
    rw [p9]
  by_cases hf : t1.tooFull = true
  · have hge := full1.mp hf
    refine wp_if_pos (by simp [hf]) (wpAny_bind ?_)
    rw [size]
    have m1 : t1.mask = t.mask := p4
    have lay : ∀ M, SetTable.sizeAbove (SetTable.grown (L.length + 1)) - 1 = M → MaskOk M → SetTable.sizeAbove (SetTable.grown (L.length + 1)) ≤ 128 → (L.length + 1) * 5 < M * 3 →
        wpAny (model P w) A (setRelay a (SetTable.grown (L.length + 1))) (fun _ s' => wpAny (model P w) A (pure true) Q E s') E { s with heap := h1 } := fun M a1 a2 a3 a4 =>
      relay (s := { s with heap := h1 }) ho1 ⟨hex.1, hex.2.1, hex.2.2⟩ rfl ents1 places1 tab1.dm (by rw [len1]; have := R.tab.mok; rw [m1]; unfold MaskOk at this; omega) nd1 keys1 plain1 led1 (by omega) a1 a2 a3 (by omega) fun h2 L2 es2 ep2 t2 sb2 R2 pm2 =>
        wpAny_pure (q true h2 L2 es2 ep2 t2 (sb.trans sb2) R2 (fun z => absurd z hm) fun _ => pm2.trans perm)
    have two : L.length = 4 ∨ L.length = 18 := by
      have := R.tab.mok
      unfold MaskOk at this
      omega
    rcases two with e | e
    · exact lay 31 (by rw [e, size_20]) (.inr (.inl rfl)) (by rw [e, size_20]; decide) (by omega)
    · exact lay 127 (by rw [e, size_76]) (.inr (.inr rfl)) (by rw [e, size_76]; decide) (by omega)
  · refine wp_if_neg (by simp [hf]) ?_
    have lt : ¬ t1.mask * 3 ≤ (L.length + 1) * 5 := fun z => hf (full1.mpr z)
    exact wpAny_pure (q true h1 L1 es1 (ep + 1) t1 sb ⟨⟨_, ho1, ⟨hex.1, hex.2.1, hex.2.2⟩, rfl⟩, ents1, tab1, nd1, keys1, plain1, led1, by omega, by omega⟩ (fun z => absurd z hm) fun _ => perm)
end
end SN
namespace SN
open PySem PySem.Spec PyProof.Rows PySem.SeqAt L2
structure Has (ks : List (Addr × NestedKey)) (i : Nat) (L : List (Addr × NestedKey)) : Prop where
  from' : ∀ p ∈ L, p ∈ ks.take i
  all : ∀ p ∈ ks.take i, p.2 ∈ L.map (·.2)
  len : L.length ≤ i
theorem Has.next {ks L L' : List (Addr × NestedKey)} {i : Nat} {p : Addr × NestedKey} (g : Has ks i L) (h : ks[i]? = some p) (same : p.2 ∈ L.map (·.2) → L' = L) (more : p.2 ∉ L.map (·.2) → L'.Perm ((p.1, p.2) :: L)) : Has ks (i + 1) L' := by
  have e : ks.take (i + 1) = ks.take i ++ [p] := take_next h
  by_cases c : p.2 ∈ L.map (·.2)
  · rw [same c]
    refine ⟨fun q hq => by rw [e]; exact List.mem_append_left _ (g.from' q hq), fun q hq => ?_, Nat.le_succ_of_le g.len⟩
    rw [e] at hq
    rcases List.mem_append.mp hq with hq | hq
    · exact g.all q hq
    · rw [List.mem_singleton.mp hq]; exact c
  · have pm := more c
    refine ⟨fun q hq => ?_, fun q hq => ?_, by rw [pm.length_eq]; exact Nat.succ_le_succ g.len⟩
    · rw [e]
      rcases List.mem_cons.mp (pm.mem_iff.mp hq) with rfl | hq
      · exact List.mem_append_right _ (List.mem_singleton.mpr rfl)
      · exact List.mem_append_left _ (g.from' q hq)
    · refine (pm.map (·.2)).mem_iff.mpr ?_
      rw [e] at hq
      rcases List.mem_append.mp hq with hq | hq
      · exact List.mem_cons_of_mem _ (g.all q hq)
      · rw [List.mem_singleton.mp hq]; exact List.mem_cons_self
section
variable {P : Program} {w : World} {A : Around} {E : Value → Shared → Prop} {s : Shared}
theorem Holds.grow {h h' : Heap} {a : Addr} {L : List (Addr × NestedKey)} {es : Array (Int × Value)} {ep : Nat} {t : SetTable} (R : Holds P w h a L es ep t) (ha : ∀ o, h.get? a = some o → h'.get? a = some o) (hk : ∀ p ∈ L, At h' p.2 p.1) : Holds P w h' a L es ep t := by
  obtain ⟨o, ho, r⟩ := R.obj
  exact { R with obj := ⟨o, ha o ho, r⟩, keys := hk }
abbrev new (w : World) : Obj := { cls := .type "set", dict := none, data := .set #[] 0 (.fresh 0 0 (!w.params.followText "set-order")) }
theorem holds_new {h : Heap} {a : Addr} (ho : h.get? a = some (new w)) : Holds P w h a [] #[] 0 (.fresh 0 0 (!w.params.followText "set-order")) where
  obj := ⟨_, ho, ⟨rfl, rfl, rfl⟩, rfl⟩
  ents := rfl
  tab := ⟨List.Pairwise.nil, rfl, rfl, .inl rfl, (fun _ hx => by cases hx), fun _ _ _ hi => by simp at hi⟩
  nd := List.nodup_nil
  keys := fun _ hp => nomatch hp
  plain := rfl
  led := by
    show _ ∨ (!w.params.followText "set-order") = true
    cases w.params.followText "set-order" <;> simp
  room := by show 0 * 5 < 7 * 3; decide
  few := by show 0 < 64; decide
theorem update_loop {I : Addr} {fp wr : List Addr} {G : Array GenState → Array GenState → Prop} {n : Nat} {Pv : Nat → Value → Prop} {St : Nat → Shared → Prop} {R : Result → Shared → Prop}
    (W : WalksS P w A.in1 I fp wr G n Pv St) (S : Addr) (out : S ∉ fp) (ks : List (Addr × NestedKey)) (hn : n = ks.length) (few : ks.length < 64) (val : ∀ i v, Pv i v → ∃ p, ks[i]? = some p ∧ v = .ref p.1)
    (h0 : Heap) (hk : ∀ p ∈ ks, At h0 p.2 p.1) (noS : h0.get? S = none) (noW : ∀ b ∈ wr, h0.get? b = none) (hu : A.in1.units + 8 < cLine) :
    ∀ (m i : Nat) (s : Shared), i + m = n → St i s → (∀ b o, h0.get? b = some o → s.heap.get? b = some o) → (∃ L es ep t, Holds P w s.heap S L es ep t ∧ Has ks i L) →
      (∀ s' L es ep t, Moved (S :: wr) G s s' → Holds P w s'.heap S L es ep t → Has ks n L → (∀ b o, h0.get? b = some o → s'.heap.get? b = some o) → R (.ok (.ret .none)) s') →
      codeAny (model P w) A (.builtin "set.update.loop" ⟨[.ref S, .ref I], []⟩) R s := by
  have notW : S ∉ wr := fun z => out (W.sub _ z)
  have wider : ∀ b ∈ wr, b ∈ S :: wr := fun b hb => List.mem_cons_of_mem _ hb
  have stay : ∀ {s s' : Shared}, Moved wr G s s' → (∀ b o, h0.get? b = some o → s.heap.get? b = some o) → ∀ b o, h0.get? b = some o → s'.heap.get? b = some o := fun mv k b o e =>
    mv.heap b o (fun hb => by rw [noW b hb] at e; cases e) (k b o e)
  intro m
  induction m with
  | zero =>
    intro i s hi st keep ⟨L, es, ep, t, hS, g⟩ fin
    obtain rfl : i = n := hi
    refine codeAny_builtin F.entry_set_update_loop ?_
    rw [Around.under_plainId F.plain_set_update_loop _]
    refine wpAny_bind (W.done s _ _ st fun s' mv => ?_)
    have keep' := stay mv keep
    exact wpAny_pure (fin s' L es ep t (mv.mono wider) (hS.grow (fun o e => mv.heap S o notW e) fun p hp => (hk p (List.mem_of_mem_take (g.from' p hp))).grow keep') g keep')
  | succ m ih =>
    intro i s hi st keep ⟨L, es, ep, t, hS, g⟩ fin
    refine codeAny_builtin F.entry_set_update_loop ?_
    rw [Around.under_plainId F.plain_set_update_loop _]
    refine wpAny_bind (W.item i s _ _ (by omega) st fun v s' hv st' mv => ?_)
    obtain ⟨p, hp, rfl⟩ := val i v hv
    have keep' := stay mv keep
    have hS' := hS.grow (fun o e => mv.heap S o notW e) fun q hq => (hk q (List.mem_of_mem_take (g.from' q hq))).grow keep'
    have hx := (hk p (List.mem_of_getElem? hp)).grow keep'
    show wpAny _ A.in1 (holding [Value.ref p.1] (setAdd S (.ref p.1)) >>= _) _ _ s'
    refine wpAny_bind (wpAny_holding ?_)
    unfold setAdd
    refine wpAny_holding (wpAny_bind (pyHash_key p.2 _ A.in1 s' _ hx.is (by have := hx.dep; omega) ?_))
    refine add (s := { s' with toks := s'.toks + p.2.draws }) hS' hx hu (by have := g.len; omega) fun b h' L' es' ep' t' sb hS2 same more => ?_
    have keep2 : ∀ b o, h0.get? b = some o → h'.get? b = some o := fun b o e => (sb.2 b fun z => by rw [z, noS] at e; cases e).trans (keep' b o e)
    refine wpAny_pure ⟨plainId_quiet F.plain_set_update_loop _, ih (i + 1) _ (by omega) (W.frame _ s' _ _ st' (Nat.le_add_right _ _) fun b hb o e => (sb.2 b fun z => out (z ▸ hb)).trans e) keep2 ⟨L', es', ep', t', hS2, g.next hp same more⟩ fun s2 L2 es2 ep2 t2 mv2 hS3 g3 keep3 => ?_⟩
    exact fin s2 L2 es2 ep2 t2 (Moved.trans W.gtrans ((mv.mono wider).then_heap (Nat.le_add_right _ _) fun b o hb e => (sb.2 b fun z => hb (by rw [z]; exact List.mem_cons_self)).trans e) mv2) hS3 g3 keep3
end
end SN
namespace SN
open PySem PySem.Spec PyProof.Rows PySem.SeqAt L2
section
variable {P : Program} {w : World} {A : Around} {E : Value → Shared → Prop} {s : Shared}
abbrev fresh (w : World) (h : Heap) : Heap := h.push { cls := .type "set", dict := none, data := .set #[] 0 (.fresh 0 0 (!w.params.followText "set-order")) }
theorem fresh_at (h : Heap) : (fresh w h).get? h.objs.size = some (new w) := Heap.get?_push_size _ rfl
theorem none_new {h : Heap} {b : Addr} (hb : h.objs.size ≤ b) : h.get? b = none := by
  cases e : h.get? b with
  | none => rfl
  | some o => exact absurd (Nat.lt_of_lt_of_le (Heap.lt_size e) hb) (Nat.lt_irrefl _)
def Left (P : Program) (w : World) (s : Shared) (ks : List (Addr × NestedKey)) (s' : Shared) : Prop :=
  ∃ (h' : Heap) (tk : Nat) (L : List (Addr × NestedKey)) (es : Array (Int × Value)) (ep : Nat) (t : SetTable), s' = { s with heap := h', toks := tk } ∧ Holds P w h' s.heap.objs.size L es ep t ∧ Has ks ks.length L ∧ ∀ b o, s.heap.get? b = some o → h'.get? b = some o
theorem fill {l : Addr} {items : Array Value} {ks : List (Addr × NestedKey)} {R : Result → Shared → Prop} (hh : A.in1.handled = none) (hl : s.heap.IsList l items) (hit : items.toList = ks.map fun p => Value.ref p.1)
    (hk : ∀ p ∈ ks, At s.heap p.2 p.1) (few : ks.length < 64) (hu : A.in1.units + 8 < cLine) (q : ∀ s', Left P w s ks s' → R (.ok (.ret .none)) s') :
    codeAny (model P w) A (.builtin "set.update.loop" ⟨[.ref s.heap.objs.size, .ref (fresh w s.heap).objs.size], []⟩) R { s with heap := (fresh w s.heap).push { cls := .type "list_iterator", data := .fields #[.ref l, .int 0 0] } } := by
  obtain ⟨ol, hol, _⟩ := id hl
  have ll := Heap.lt_size hol
  have sz : (fresh w s.heap).objs.size = s.heap.objs.size + 1 := Heap.size_push ..
  have hl1 : (fresh w s.heap).IsList l items := hl.push _
  have size : items.size = ks.length := by rw [← Array.length_toList, hit, List.length_map]
  have apart : l ≠ (fresh w s.heap).objs.size := by rw [sz]; exact Nat.ne_of_lt (Nat.lt_succ_of_lt ll)
  refine update_loop ((Walks.list hh _ l apart items).toS) s.heap.objs.size (by
      rw [sz]; simp only [List.mem_cons, List.not_mem_nil, or_false, not_or]
      exact ⟨Nat.ne_of_lt (Nat.lt_succ_self _), Nat.ne_of_gt ll⟩) ks size few (fun i v hv => ?_) s.heap hk (none_new (Nat.le_refl _)) (fun b hb => none_new (by rw [List.mem_singleton.mp hb, sz]; exact Nat.le_succ _)) hu items.size 0 _ (Nat.zero_add _)
    ⟨⟨_, Heap.get?_push_size _ rfl, rfl, rfl⟩, hl1.push _⟩ (fun b o e => Heap.get?_push_of_some _ (Heap.get?_push_of_some _ e)) ⟨[], #[], 0, _, holds_new (Heap.get?_push_of_some _ (fresh_at _)), ⟨(fun p hp => by cases hp), (fun p hp => by simp at hp), Nat.le_refl _⟩⟩ fun s' L es ep t mv hS g keep => ?_
  · have e : items.toList[i]? = some v := by rw [Array.getElem?_toList]; exact hv
    rw [hit, List.getElem?_map] at e
    obtain ⟨p, hp, rfl⟩ := Option.map_eq_some_iff.mp e
    exact ⟨p, hp, rfl⟩
  · rw [size] at g
    refine q s' ⟨s'.heap, s'.toks, L, es, ep, t, ?_, hS, g, keep⟩
    obtain ⟨h', g', d', tk', os'⟩ := s'
    have e1 : g' = s.gens := mv.gens
    have e2 : d' = s.drawn := mv.drawn
    have e3 : os' = s.os := mv.os
    subst e1 e2 e3
    rfl
theorem init_ok {l : Addr} {items : Array Value} {ks : List (Addr × NestedKey)} {R : Fin → Shared → Prop} (hh : A.in1.handled = none) (hl : s.heap.IsList l items) (hit : items.toList = ks.map fun p => Value.ref p.1)
    (hk : ∀ p ∈ ks, At s.heap p.2 p.1) (few : ks.length < 64) (hu : A.in1.units + 8 < cLine) (q : ∀ s', Left P w s ks s' → R (.done (.ret .none)) s') :
    wpAny (model P w) A (Builtin.«set.__init__» ⟨[.ref s.heap.objs.size, .ref l], []⟩) R E { s with heap := fresh w s.heap } := by
  obtain ⟨ol, hol, hcl, nl, hdl⟩ := id hl
  obtain ⟨ocls, odict, odata, oslots⟩ := ol
  simp only at hcl hdl
  subst hcl hdl
  have at1 := fresh_at (w := w) s.heap
  have isS : Shared.TypeIs { s with heap := fresh w s.heap } (.ref s.heap.objs.size) "set" := ⟨_, at1, rfl⟩
  have there : (fresh w s.heap).get? l = some { cls := .type "list", dict := odict, data := .seq items nl, slots := oslots } := Heap.get?_push_of_some _ hol
  have n1 := F.sub_list_set
  have n2 := F.sub_list_frozenset
  have n3 : (Value.type "list" == Value.type "dict") = false := by decide
  have hl1 : (fresh w s.heap).IsList l items := hl.push _
  unfold Builtin.«set.__init__» noKeywords Builtin.Frozenset.updateFrom
  generalize hPI : pyIter = PI
  wp_walk
  subst hPI
  refine wpAny_pyIter_list hl1 (wpAny_bind (wpAny_runValue ?_))
  exact fill hh hl hit hk few hu fun s' z => wpAny_pure (wpAny_pure (q s' z))
theorem call_set {l : Addr} {items : Array Value} {ks : List (Addr × NestedKey)} {Q : Value → Shared → Prop} (hh : A.handled = none) (hl : s.heap.IsList l items) (hit : items.toList = ks.map fun p => Value.ref p.1)
    (hk : ∀ p ∈ ks, At s.heap p.2 p.1) (few : ks.length < 64) (hu : A.units + 20 < cLine) (q : ∀ s', Left P w s ks s' → Q (.ref s.heap.objs.size) s') : wpAny (model P w) A (call (.type "set") [.ref l]) Q E s := by
  obtain ⟨_, _, mro⟩ := F.called_set.mro
  have made := F.called_set.made
  have sub := F.called_set.sub
  refine wpAny_call (codeAny_of_tree (show wpAny _ _ (callAny (.type "set") _) _ _ _ from wpAny_pure ⟨Code.quiet_builtin _ (by decide +kernel), codeAny_builtin F.entry_type_call ?_⟩))
  rw [Around.under_plain (weight_type_call_type "set" [.ref l] []) rfl]
  have notT := F.called_set.notType
  have can := F.called_set.canCreate
  have tc := F.typeCall_set_1 (.ref l)
  repeat any_goals (first | assumption | wp_step)
  refine codeAny_mono (code_set_led1 (.ref l) (E := E) (Q₁ := fun v s1 => v = .ref s.heap.objs.size ∧ s1 = { s with heap := fresh w s.heap }) ⟨rfl, rfl⟩) fun r s1 hr => ?_
  cases r with
  | error e => exact hr
  | ok fl =>
    cases fl with
    | ret v =>
      obtain ⟨rfl, rfl⟩ := hr
      have isS : Shared.TypeIs { s with heap := fresh w s.heap } (.ref s.heap.objs.size) "set" := ⟨_, fresh_at _, rfl⟩
      have lk := F.called_set.init.lookup
      have bd := F.called_set.init.bind (.ref s.heap.objs.size)
      repeat any_goals (first | assumption | wp_step)
      refine codeAny_mono (codeAny_call_builtin (R := wants (fun v s2 => v = .none ∧ Left P w s ks s2) E) F.called_set.init.plain F.entry_set_init (check_set_init_1 isS ?_)) fun r2 s2 hr2 => ?_
      · refine init_ok (by simp [hh]) hl hit hk few (by simp; omega) fun s' z => ⟨rfl, z⟩
      · cases r2 with
        | error e => exact hr2
        | ok fl2 =>
          cases fl2 with
          | ret v2 =>
            obtain ⟨rfl, z⟩ := hr2
            repeat any_goals (first | assumption | wp_step)
            exact q _ z
          | _ => exact hr2.elim
    | _ => exact hr.elim
end
end SN
namespace SN
open PySem PySem.Spec PyProof.Rows PySem.SeqAt L2
mutual
def okKey : PyData → Bool
  | .int _ => true
  | .tuple xs => okKeys xs
  | _ => false
def okKeys : List PyData → Bool
  | [] => true
  | x :: xs => okKey x && okKeys xs
end
mutual
def key : PyData → NestedKey
  | .int i => .num i
  | .tuple xs => .tup (keys xs)
  | _ => .none
def keys : List PyData → List NestedKey
  | [] => []
  | x :: xs => key x :: keys xs
end
mutual
theorem data_key : ∀ d : PyData, okKey d = true → (key d).data = d
  | .int _, _ => rfl
  | .tuple xs, h => congrArg PyData.tuple (data_keys xs h)
  | .none, h => nomatch h
  | .bool _, h => nomatch h
  | .str _, h => nomatch h
  | .list _, h => nomatch h
  | .dict _, h => nomatch h
theorem data_keys : ∀ xs : List PyData, okKeys xs = true → NestedKey.datas (keys xs) = xs
  | [], _ => rfl
  | x :: xs, h => by
    obtain ⟨h1, h2⟩ := Bool.and_eq_true_iff.mp (show (okKey x && okKeys xs) = true from h)
    show (key x).data :: NestedKey.datas (keys xs) = _
    rw [data_key x h1, data_keys xs h2]
end
mutual
theorem bare_key : ∀ d : PyData, bare (key d) = true
  | .int _ => rfl
  | .tuple xs => bare_keys xs
  | .none => rfl
  | .bool _ => rfl
  | .str _ => rfl
  | .list _ => rfl
  | .dict _ => rfl
theorem bare_keys : ∀ xs : List PyData, bares (keys xs) = true
  | [] => rfl
  | x :: xs => by
    show (bare (key x) && bares (keys xs)) = true
    rw [bare_key x, bare_keys xs]; rfl
end
mutual
theorem key_depth : ∀ d : PyData, (key d).depth ≤ d.depth
  | .int _ => Nat.le_refl _
  | .tuple xs => Nat.succ_le_succ (key_depths xs)
  | .none => Nat.le_refl _
  | .bool _ => Nat.le_refl _
  | .str _ => Nat.le_refl _
  | .list _ => Nat.zero_le _
  | .dict _ => Nat.zero_le _
theorem key_depths : ∀ xs : List PyData, NestedKey.depthAll (keys xs) ≤ PyData.depthAll xs
  | [] => Nat.le_refl _
  | x :: xs => by
    have h1 := key_depth x
    have h2 := key_depths xs
    show max (key x).depth (NestedKey.depthAll (keys xs)) ≤ max x.depth (PyData.depthAll xs)
    omega
end
mutual
theorem nested_of {h : Heap} : ∀ (d : PyData) (v : Value) (as : List Addr), okKey d = true → Reads h v d as → NestedIs h (key d) v
  | .int _, _, _, _, r => by cases r; exact .int _ _
  | .tuple xs, _, _, ok, r => by
    cases r with
    | tuple h1 h2 h3 h4 => exact .tup h1 h2 h3 (nested_all xs _ _ ok h4)
  | .none, _, _, ok, _ => nomatch ok
  | .bool _, _, _, ok, _ => nomatch ok
  | .str _, _, _, ok, _ => nomatch ok
  | .list _, _, _, ok, _ => nomatch ok
  | .dict _, _, _, ok, _ => nomatch ok
theorem nested_all {h : Heap} : ∀ (xs : List PyData) (vs : List Value) (as : List Addr), okKeys xs = true → ReadsAll h vs xs as → NestedAll h (keys xs) vs
  | [], _, _, _, r => by cases r; exact .nil
  | x :: xs, _, _, ok, r => by
    obtain ⟨h1, h2⟩ := Bool.and_eq_true_iff.mp (show (okKey x && okKeys xs) = true from ok)
    cases r with
    | cons r1 r2 => exact .cons (nested_of x _ _ h1 r1) (nested_all xs _ _ h2 r2)
end
theorem at_of {h : Heap} {d : PyData} {a : Addr} {as : List Addr} (ok : okKey d = true) (dep : d.depth ≤ 8) (r : Reads h (.ref a) d as) : At h (key d) a :=
  ⟨nested_of d _ _ ok r, Nat.le_trans (key_depth d) dep, bare_key d⟩
theorem key_inj {d d' : PyData} (h : okKey d = true) (h' : okKey d' = true) (e : key d = key d') : d = d' := by
  rw [← data_key d h, ← data_key d' h', e]
end SN
namespace SN
open PySem PySem.Spec PyProof.Rows PySem.SeqAt L2
abbrev kd (p : Addr × PyData) : Addr × NestedKey := (p.1, key p.2)
section
variable {P : Program} {w : World}
structure Box (P : Program) (w : World) (h : Heap) (a : Addr) (L : List (Addr × PyData)) : Prop where
  ex : ∃ (es : Array (Int × Value)) (ep : Nat) (t : SetTable), (∃ o, h.get? a = some o ∧ o.ExactSet ∧ o.data = .set es ep t) ∧ es.toList = (L.map kd).map (ent w) ∧ TabOk t ((L.map kd).map fun p => p.2.hash w) ∧
    ((L.map kd).map (·.2)).Nodup ∧ t.plain = true ∧ (w.params.followText "set-order" = true ∨ t.led = true) ∧ (L.map kd).length * 5 < t.mask * 3 ∧ (L.map kd).length < 64
def BoxO (P : Program) (w : World) (a : Addr) (L : List (Addr × PyData)) : HO := .ext fun h => Box P w h a L
theorem Box.holds {h : Heap} {a : Addr} {L : List (Addr × PyData)} (B : Box P w h a L) (hk : ∀ p ∈ L.map kd, At h p.2 p.1) : ∃ es ep t, Holds P w h a (L.map kd) es ep t := by
  obtain ⟨es, ep, t, h1, h2, h3, h4, h5, h6, h7, h8⟩ := B.ex
  exact ⟨es, ep, t, h1, h2, h3, h4, hk, h5, h6, h7, h8⟩
theorem Holds.box {h : Heap} {a : Addr} {L : List (Addr × PyData)} {es : Array (Int × Value)} {ep : Nat} {t : SetTable} (R : Holds P w h a (L.map kd) es ep t) : Box P w h a L :=
  ⟨es, ep, t, R.obj, R.ents, R.tab, R.nd, R.plain, R.led, R.room, R.few⟩
theorem box_new {H : Hp} {h : Heap} {a : Addr} {L : List (Addr × PyData)} (B : Box P w h a L) : ObjOk P w H h a (BoxO P w a L) := by
  obtain ⟨es, ep, t, ⟨o, ho, _⟩, _⟩ := id B.ex
  refine ⟨B, ⟨o, ho⟩, fun h1 h2 p k => ?_⟩
  obtain ⟨es', ep', t', ⟨o', ho', r'⟩, rest⟩ := Box.ex p
  exact ⟨es', ep', t', ⟨o', k o' ho', r'⟩, rest⟩
theorem back {ks : List (Addr × PyData)} (ok : ∀ p ∈ ks, okKey p.2 = true) : ∀ {L0 : List (Addr × NestedKey)}, (∀ p ∈ L0, p ∈ ks.map kd) → ∃ L : List (Addr × PyData), L.map kd = L0 ∧ ∀ p ∈ L, p ∈ ks
  | [], _ => ⟨[], rfl, fun p hp => nomatch hp⟩
  | p :: L0, h => by
    obtain ⟨q, hq, e⟩ := List.mem_map.mp (h p List.mem_cons_self)
    obtain ⟨L, e2, h2⟩ := back ok fun p' hp' => h p' (List.mem_cons_of_mem _ hp')
    refine ⟨q :: L, by rw [List.map_cons, e, e2], fun p' hp' => ?_⟩
    rcases List.mem_cons.mp hp' with rfl | hp'
    · exact hq
    · exact h2 p' hp'
end
section
variable {X : Cx}
def rSetN (K : PySem.W.Frag) (P : Program) (w : World) : List V → Hp → VK → Prop := fun vs H Q => ∃ (l : Addr) (ks : List (Addr × PyData)), vs = [V.ref l] ∧ SqL K H l (ks.map fun p => V.ref p.1) ∧ (∀ p ∈ ks, Dp K H (.ref p.1) p.2 ∧ okKey p.2 = true ∧ p.2.depth ≤ 8) ∧ ks.length < 64 ∧
  ∀ a L, H a = none → (∀ p ∈ L, p ∈ ks) → (∀ p ∈ ks, p.2 ∈ L.map (·.2)) → (L.map (·.2)).Nodup → Q (.ref a) (upd H a (BoxO P w a L))
theorem at_dp {pins : List (Addr × Obj)} {σ : L2.St} {H : Hp} {s : Shared} (I : Inv X pins σ H s) {p : Addr × PyData} (h : Dp X.K H (.ref p.1) p.2 ∧ okKey p.2 = true ∧ p.2.depth ≤ 8) : At s.heap (key p.2) p.1 := by
  obtain ⟨as, r⟩ := Dp.reads I p.2 (.ref p.1) (.ref p.1) h.1 rfl
  exact at_of h.2.1 h.2.2 r
theorem cr_setN (hc : X.calm = true) (hu : X.A.units + 64 < cLine) : CallR X (.type "set") (rSetN X.K X.prog X.w) := by
  intro pins s σ H vs us Q I r h
  obtain ⟨l, ks, rfl, hl, hk, few, q⟩ := h
  rw [Vals.ref1 r]
  obtain ⟨its, rv, pl, hz⟩ := I.list hl
  have refs : ∀ {ps : List (Addr × PyData)} {vs : List Value}, Vals (ps.map fun p => V.ref p.1) vs → vs = (ps.map kd).map fun p => Value.ref p.1 := fun {ps} => by
    induction ps with
    | nil => intro vs r; cases r; rfl
    | cons p ps ih =>
      intro vs r
      cases r with
      | cons r1 r2 =>
        cases r1
        rw [ih r2]; rfl
  refine call_set (P := X.prog) (w := X.w) (ks := ks.map kd) (I.ok.hd hc) pl.isList (by simpa using refs rv) (fun p hp => ?_) (by rw [List.length_map]; exact few) (by omega) fun s' z => ?_
  · obtain ⟨q, hq, rfl⟩ := List.mem_map.mp hp
    exact at_dp I (hk q hq)
  · obtain ⟨h', tk, L0, es, ep, t, rfl, R, g, keep⟩ := z
    obtain ⟨L, rfl, hL⟩ := back (fun p hp => (hk p hp).2.1) (L0 := L0) fun p hp => List.mem_of_mem_take (g.from' p hp)
    refine ⟨.ref s.heap.objs.size, upd H s.heap.objs.size (BoxO X.prog X.w s.heap.objs.size L), I.laid (t' := tk) keep (Nat.le_refl _) (box_new R.box), rfl, q _ L (I.hok.fresh (Nat.le_refl _)) hL (fun p hp => ?_) ?_⟩
    · have := g.all (kd p) (by rw [List.take_length]; exact List.mem_map.mpr ⟨p, hp, rfl⟩)
      rw [List.map_map] at this
      obtain ⟨p2, h2, e⟩ := List.mem_map.mp this
      have e : key p2.2 = key p.2 := e
      exact List.mem_map.mpr ⟨p2, h2, key_inj (hk p2 (hL p2 h2)).2.1 (hk p hp).2.1 e⟩
    · have := R.nd
      rw [List.map_map] at this
      rw [List.Nodup, List.pairwise_map] at this ⊢
      exact this.imp fun {a b} h e => h (congrArg key e)
end
end SN
namespace SN
open PySem PySem.Spec PyProof.Rows PySem.SeqAt L2
mutual
theorem no_lists {h : Heap} : ∀ (d : PyData) (v : Value) (as : List Addr), okKey d = true → Reads h v d as → as = []
  | .int _, _, _, _, r => by cases r; rfl
  | .tuple xs, _, _, ok, r => by
    cases r with
    | tuple h1 h2 h3 h4 => exact no_listss xs _ _ ok h4
  | .none, _, _, ok, _ => nomatch ok
  | .bool _, _, _, ok, _ => nomatch ok
  | .str _, _, _, ok, _ => nomatch ok
  | .list _, _, _, ok, _ => nomatch ok
  | .dict _, _, _, ok, _ => nomatch ok
theorem no_listss {h : Heap} : ∀ (xs : List PyData) (vs : List Value) (as : List Addr), okKeys xs = true → ReadsAll h vs xs as → as = []
  | [], _, _, _, r => by cases r; rfl
  | x :: xs, _, _, ok, r => by
    obtain ⟨h1, h2⟩ := Bool.and_eq_true_iff.mp (show (okKey x && okKeys xs) = true from ok)
    cases r with
    | cons r1 r2 => rw [no_lists x _ _ h1 r1, no_listss xs _ _ h2 r2]; rfl
end
theorem perm_back {α β : Type} {f : α → β} {out M : List β} (h : out.Perm M) : ∀ L : List α, M = L.map f → ∃ L1 : List α, L1.Perm L ∧ out = L1.map f := by
  induction h with
  | nil =>
    intro L e
    cases L with
    | nil => exact ⟨[], .nil, rfl⟩
    | cons x L => cases e
  | cons x _ ih =>
    intro L e
    cases L with
    | nil => cases e
    | cons y L =>
      rw [List.map_cons] at e
      injection e with e1 e2
      obtain ⟨L1, p, e3⟩ := ih L e2
      exact ⟨y :: L1, p.cons y, by rw [List.map_cons, e1, e3]⟩
  | swap x y l =>
    intro L e
    match L, e with
    | a :: b :: L, e =>
      rw [List.map_cons, List.map_cons] at e
      injection e with e1 e2
      injection e2 with e2 e3
      exact ⟨b :: a :: L, .swap a b L, by rw [List.map_cons, List.map_cons, e1, e2, e3]⟩
  | trans _ _ ih1 ih2 =>
    intro L e
    obtain ⟨L1, p1, e1⟩ := ih2 L e
    obtain ⟨L2, p2, e2⟩ := ih1 L1 e1
    exact ⟨L2, p2.trans p1, e2⟩
abbrev refOf (p : Addr × PyData) : Value := Value.ref p.1
theorem each_refs : ∀ {out : List Value} {bs : List (Addr × PyData)}, PySem.W.EachIs (fun v b => v = refOf b) out bs → out = bs.map refOf
  | _, _, .nil => rfl
  | _, _, .cons e t => by rw [e, each_refs t]; rfl
theorem refs_each {R : Value → Addr × PyData → Prop} : ∀ {bs : List (Addr × PyData)}, (∀ b ∈ bs, R (refOf b) b) → PySem.W.EachIs R (bs.map refOf) bs
  | [], _ => .nil
  | b :: bs, h => .cons (h b List.mem_cons_self) (refs_each fun c hc => h c (List.mem_cons_of_mem _ hc))
abbrev sortB (bs : List (Addr × PyData)) : List (Addr × PyData) := bs.mergeSort (PySem.W.dataLe false (·.2))
section
variable {P : Program} {w : World} {A : Around} {E : Value → Shared → Prop} {s : Shared}
theorem sort_items {a : Addr} {n : Nat} {bs : List (Addr × PyData)} {Q : Value → Shared → Prop} (ho : s.heap.get? a = some (seqObj "list" (bs.map refOf).toArray n)) (rd : ∀ b ∈ bs, okKey b.2 = true ∧ b.2.depth ≤ 8 ∧ ∃ as, Reads s.heap (refOf b) b.2 as)
    (al : PySem.W.AllAlike (bs.map (·.2))) (so : PySem.W.Sortable (bs.map (·.2)) ∨ bs.length = 1) (few : bs.length ≤ 1000) (hu : A.units + 20 < cLine) (q : Q .none { s with heap := sortedHeap s.heap a (bs.map refOf) ((sortB bs).map refOf).toArray }) :
    wpAny (model P w) A (call (.builtin "list.sort") [.ref a]) Q E s := by
  rcases so with so | one
  · refine PySem.W.list_sort_data (R := fun v b => v = refOf b) (enc := fun b : Addr × PyData => b.2) ho (refs_each fun b _ => rfl) (refs_each fun b hb => ?_) al so (by rw [sizeLine_eq]; omega) (fun b hb => by have := (rd b hb).2.1; omega) fun out hl he => ?_
    · obtain ⟨as, r⟩ := (rd b hb).2.2
      exact ⟨as, r, by rw [no_lists _ _ _ (rd b hb).1 r]; exact List.not_mem_nil⟩
    · rw [each_refs he]; exact q
  · obtain ⟨b, rfl⟩ := List.length_eq_one_iff.mp one
    obtain ⟨ok, dep, as, r⟩ := rd b List.mem_cons_self
    have none_as := no_lists _ _ _ ok r
    have hal : PySem.W.alike b.2 b.2 = true := al _ List.mem_cons_self _ List.mem_cons_self
    have nn : b.2 ≠ .none := fun z => by rw [z] at ok; cases ok
    have r2 : Reads (PySem.W.sortingHeap s.heap a [refOf b]) (refOf b) b.2 as :=
      PySem.W.Reads.keepBut (fun _ _ hb q => PySem.W.sortingHeap_old hb q) (fun o z => by rw [ho] at z; rw [← Option.some.inj z]) _ _ _ hal r (by rw [none_as]; exact List.not_mem_nil)
    refine wpAny_call_entry slot_list_sort ⟨_, ho, rfl⟩ entry_list_sort (PySem.W.list_sort_vals (κ := PySem.W.dataKind (PySem.W.sortingHeap s.heap a [refOf b]) [b.2]) ho (DL.sorts_one (s := { s with heap := PySem.W.sortingHeap s.heap a [refOf b] }) r2 hal nn (by show A.units + 1 + b.2.depth < cLine; omega)) (by show 1 ≤ _; rw [sizeLine_eq]; omega) ⟨.none, rfl, ?_⟩) (args_list_sort _)
    have e1 : ∀ κ : PyProof.Rows.KeyKind, PySem.W.sortVals κ false [refOf b] [refOf b] = [refOf b] := fun κ => by
      have h1 := PySem.W.sortVals_length (κ := κ) false (ks := [refOf b]) (vs := [refOf b]) rfl
      match e : PySem.W.sortVals κ false [refOf b] [refOf b], h1 with
      | [z], _ =>
        have := PySem.W.sortVals_mem (κ := κ) false (ks := [refOf b]) (vs := [refOf b]) (v := z) (by rw [e]; exact List.mem_cons_self)
        rw [List.mem_singleton] at this
        rw [this]
    rw [show (([b] : List (Addr × PyData)).map refOf) = [refOf b] from rfl, e1]
    have e2 : sortB [b] = [b] := by unfold sortB; simp
    rw [e2] at q
    exact q
theorem sorted_box {a : Addr} {L : List (Addr × PyData)} {es : Array (Int × Value)} {ep : Nat} {t : SetTable} {Q : Value → Shared → Prop} (R : Holds P w s.heap a (L.map kd) es ep t) (hh : A.handled = none)
    (rd : ∀ b ∈ L, okKey b.2 = true ∧ b.2.depth ≤ 8 ∧ ∃ as, Reads s.heap (refOf b) b.2 as) (al : PySem.W.AllAlike (L.map (·.2))) (so : PySem.W.Sortable (L.map (·.2)) ∨ L.length = 1) (hu : A.units + 30 < cLine)
    (q : ∀ s' p c (L1 : List (Addr × PyData)), (∀ b o, s.heap.get? b = some o → s'.heap.get? b = some o) → s'.gens = s.gens → s'.os = s.os → s.heap.objs.size ≤ p → s'.heap.get? p = some (seqObj "list" ((sortB L1).map refOf).toArray c) → L1.Perm L → Q (.ref p) s') :
    wpAny (model P w) A (call (.builtin "sorted") [.ref a]) Q E s := by
  obtain ⟨o, ho, hex, hd⟩ := R.obj
  have size := R.size
  have few := R.few
  rw [List.length_map] at size few
  refine Calls.call_function_entry kind_sorted plain_sorted entry_sorted (args_sorted1 _) ?_
  unfold Builtin.«sorted»
  refine wpAny_bind (m := checkCount "sorted" 1 1 _) (wpAny_pure (wpAny_bind (collect_set (A := A.in1) hh ⟨o, ho, hex.1, hd⟩ R.fits (by unfold scanBound; omega) R.tab.ris R.led fun s1 vs keep sz g1 o1 pm => ?_)))
  rw [R.ents, List.map_map, List.map_map] at pm
  obtain ⟨L1, p1, rfl⟩ := perm_back pm L rfl
  have few1 : L1.length < 64 := by rw [p1.length_eq]; exact few
  refine wpAny_bind (wpAny_newList ?_ (by rw [List.length_map, sizeLine_eq]; omega))
  have at1 : (s1.heap.push (seqObj "list" (L1.map refOf).toArray 0)).get? s1.heap.objs.size = some (seqObj "list" (L1.map refOf).toArray 0) := Heap.get?_push_size _ rfl
  refine wpAny_bind (wpAny_holding (sort_items (s := { s1 with heap := s1.heap.push (seqObj "list" (L1.map refOf).toArray 0) }) (bs := L1) at1 (fun b hb => ?_) (fun d hd d' hd' => al d ((p1.map (·.2)).mem_iff.mp hd) d' ((p1.map (·.2)).mem_iff.mp hd')) ?_ (by omega) (by show A.units + 1 + 20 < _; omega) ?_))
  · obtain ⟨k1, k2, as, r⟩ := rd b (p1.mem_iff.mp hb)
    exact ⟨k1, k2, as, PyProof.Rows.Reads.keeps (fun b u e => Heap.get?_push_of_some _ (keep b u e)) r⟩
  · rcases so with so | so
    · refine .inl ?_
      rcases so with so | so
      · exact .inl fun d hd => so d ((p1.map (·.2)).mem_iff.mp hd)
      · exact .inr fun d hd => so d ((p1.map (·.2)).mem_iff.mp hd)
    · exact .inr (by rw [p1.length_eq]; exact so)
  · obtain ⟨c, hc⟩ := sortedHeap_at (vs := L1.map refOf) (out := ((sortB L1).map refOf).toArray) at1
    refine wpAny_pure ⟨_, rfl, q _ s1.heap.objs.size c L1 (fun b u e => ?_) g1 o1 sz hc p1⟩
    have e1 := keep b u e
    have lt := Heap.lt_size e1
    exact (sortedHeap_old (Nat.ne_of_lt lt) (by rw [size_push']; exact Nat.lt_succ_of_lt lt)).trans (Heap.get?_push_of_some _ e1)
end
end SN
namespace SN
open PySem PySem.Spec PyProof.Rows PySem.SeqAt L2
section
variable {X : Cx}
def rSortedN (K : PySem.W.Frag) (P : Program) (w : World) : List V → Hp → VK → Prop := fun vs H Q => ∃ (a : Addr) (L : List (Addr × PyData)), vs = [V.ref a] ∧ H a = some (BoxO P w a L) ∧ (∀ p ∈ L, Dp K H (.ref p.1) p.2 ∧ okKey p.2 = true ∧ p.2.depth ≤ 8) ∧
  PySem.W.AllAlike (L.map (·.2)) ∧ (PySem.W.Sortable (L.map (·.2)) ∨ L.length = 1) ∧ ∀ (L1 : List (Addr × PyData)) p, L1.Perm L → H p = none → Q (.ref p) (upd H p (.lst ((sortB L1).map fun q => V.ref q.1)))
theorem vals_refs : ∀ (ks : List (Addr × PyData)), Vals (ks.map fun p => V.ref p.1) (ks.map refOf)
  | [] => .nil
  | p :: ks => .cons rfl (vals_refs ks)
theorem cr_sortedN (hc : X.calm = true) (hu : X.A.units + 64 < cLine) : CallR X (.builtin "sorted") (rSortedN X.K X.prog X.w) := by
  intro pins s σ H vs us Q I r h
  obtain ⟨a, L, rfl, ha, hk, al, so, q⟩ := h
  have B : Box X.prog X.w s.heap a L := (I.hok a _ ha).1
  obtain ⟨es, ep, t, R⟩ := B.holds fun p hp => by
    obtain ⟨p2, hp2, rfl⟩ := List.mem_map.mp hp
    exact at_dp I (hk p2 hp2)
  rw [Vals.ref1 r]
  refine sorted_box R (I.ok.hd hc) (fun b hb => ⟨(hk b hb).2.1, (hk b hb).2.2, Dp.reads I b.2 (.ref b.1) (.ref b.1) (hk b hb).1 rfl⟩) al so (by omega) fun s' p c L1 keep g o hp hg pm => ?_
  have few := R.few
  rw [List.length_map] at few
  have len : ((sortB L1).map fun q => V.ref q.1).length ≤ sizeLine := by rw [List.length_map, List.length_mergeSort, pm.length_eq, sizeLine_eq]; omega
  have no : H p = none := I.hok.fresh hp
  have J : Inv X pins σ (upd H p (.lst ((sortB L1).map fun q => V.ref q.1))) { s with heap := s'.heap, gens := s'.gens, drawn := s'.drawn, toks := s'.toks } :=
    I.call (ch := []) (Un.laid keep hp no) (I.hok.laid keep hp ⟨len, _, c, vals_refs (sortB L1), hg⟩) (by rw [g]; exact I.bare) (fun _ z => nomatch z)
  have e : s' = { s with heap := s'.heap, gens := s'.gens, drawn := s'.drawn, toks := s'.toks } := by
    cases s'
    cases s
    cases o
    rfl
  rw [e]
  exact ⟨.ref p, _, J, rfl, q L1 p pm no⟩
end
end SN
namespace DL
open PySem PySem.Spec PyProof.Rows L2
abbrev dSp (S : List (List Int)) : PyData := .tuple (S.map dT)
def rowI : DV → Option (List Int)
  | .tup ws => allI ws
  | _ => none
def rowsI : List DV → Option (List (List Int))
  | [] => some []
  | w :: ws => (rowI w).bind fun r => (rowsI ws).map fun rs => r :: rs
def spI : DV → Option (List (List Int))
  | .tup ws => rowsI ws
  | _ => none
def spsI : List DV → Option (List (List (List Int)))
  | [] => some []
  | w :: ws => (spI w).bind fun S => (spsI ws).map fun Ss => S :: Ss
theorem allI_back : ∀ {ws : List DV} {ns : List Int}, allI ws = some ns → ws = ns.map .int
  | [], _, e => by cases e; rfl
  | w :: ws, _, e => by
    obtain ⟨i, e1, e⟩ := Option.bind_eq_some_iff.mp (show (asI w).bind _ = _ from e)
    obtain ⟨is, e2, e⟩ := Option.map_eq_some_iff.mp e
    subst e
    have : w = .int i := by
      cases w <;> simp [asI] at e1
      rw [e1]
    rw [this, allI_back e2]; rfl
theorem rowsI_back : ∀ {ws : List DV} {rs : List (List Int)}, rowsI ws = some rs → ws = rs.map R
  | [], _, e => by cases e; rfl
  | w :: ws, _, e => by
    obtain ⟨r, e1, e⟩ := Option.bind_eq_some_iff.mp (show (rowI w).bind _ = _ from e)
    obtain ⟨rs, e2, e⟩ := Option.map_eq_some_iff.mp e
    subst e
    have : w = R r := by
      cases w with
      | tup us => rw [allI_back (show allI us = some r from e1)]
      | _ => cases e1
    rw [this, rowsI_back e2]; rfl
theorem spsI_back : ∀ {ws : List DV} {Ss : List (List (List Int))}, spsI ws = some Ss → ws = Ss.map Sp'
  | [], _, e => by cases e; rfl
  | w :: ws, _, e => by
    obtain ⟨S, e1, e⟩ := Option.bind_eq_some_iff.mp (show (spI w).bind _ = _ from e)
    obtain ⟨Ss, e2, e⟩ := Option.map_eq_some_iff.mp e
    subst e
    have : w = Sp' S := by
      cases w with
      | tup us => rw [rowsI_back (show rowsI us = some S from e1)]
      | _ => cases e1
    rw [this, spsI_back e2]; rfl
theorem allI_ints : ∀ ns : List Int, allI (ns.map .int) = some ns
  | [] => rfl
  | n :: ns => by
    show (allI (ns.map .int)).map _ = _
    rw [allI_ints ns]; rfl
theorem rowsI_rows : ∀ rs : List (List Int), rowsI (rs.map R) = some rs
  | [] => rfl
  | r :: rs => by
    show (allI (r.map .int)).bind _ = _
    rw [allI_ints r]
    show (rowsI (rs.map R)).map _ = _
    rw [rowsI_rows rs]; rfl
theorem spsI_sps : ∀ Ss : List (List (List Int)), spsI (Ss.map Sp') = some Ss
  | [] => rfl
  | S :: Ss => by
    show (rowsI (S.map R)).bind _ = _
    rw [rowsI_rows S]
    show (spsI (Ss.map Sp')).map _ = _
    rw [spsI_sps Ss]; rfl
def onceS (Ss : List (List (List Int))) : List (List (List Int)) := Ss.foldl (fun acc S => if S ∈ acc then acc else acc ++ [S]) []
def riseS (Ss : List (List (List Int))) : List (List (List Int)) := (onceS Ss).mergeSort (PySem.W.dataLe false dSp)
theorem once_mem (S : List (List Int)) : ∀ (Ss acc : List (List (List Int))), S ∈ Ss.foldl (fun acc S => if S ∈ acc then acc else acc ++ [S]) acc ↔ S ∈ acc ∨ S ∈ Ss
  | [], acc => by simp
  | T :: Ss, acc => by
    rw [List.foldl_cons, once_mem S Ss]
    by_cases h : T ∈ acc
    · rw [if_pos h, List.mem_cons]
      exact ⟨fun z => z.elim .inl fun z => .inr (.inr z), fun z => z.elim .inl fun z => z.elim (fun e => .inl (e ▸ h)) .inr⟩
    · rw [if_neg h, List.mem_append, List.mem_singleton, List.mem_cons, or_assoc]
theorem once_nodup : ∀ (Ss acc : List (List (List Int))), acc.Nodup → (Ss.foldl (fun acc S => if S ∈ acc then acc else acc ++ [S]) acc).Nodup
  | [], acc, h => h
  | T :: Ss, acc, h => by
    rw [List.foldl_cons]
    by_cases c : T ∈ acc
    · rw [if_pos c]; exact once_nodup Ss acc h
    · rw [if_neg c]
      refine once_nodup Ss _ (List.nodup_append.mpr ⟨h, by simp, fun a ha b hb e => ?_⟩)
      rw [List.mem_singleton] at hb
      subst hb e
      exact c ha
theorem onceS_mem {S : List (List Int)} {Ss : List (List (List Int))} : S ∈ onceS Ss ↔ S ∈ Ss := by unfold onceS; rw [once_mem]; simp
theorem onceS_nodup (Ss : List (List (List Int))) : (onceS Ss).Nodup := once_nodup Ss [] List.nodup_nil
theorem alike_sp (S T : List (List Int)) : PySem.W.alike (dSp S) (dSp T) = true := by
  have h : ∀ S T : List (List Int), PySem.W.alikeAll (S.map dT) (T.map dT) = true := fun S => by
    induction S with
    | nil => intro T; cases T <;> simp [PySem.W.alikeAll]
    | cons a S ih =>
      intro T
      cases T with
      | nil => simp [PySem.W.alikeAll]
      | cons b T =>
        rw [List.map_cons, List.map_cons, PySem.W.alikeAll, ih T, show PySem.W.alike (dT a) (dT b) = true from PySem.W.alike_ints a b]
        rfl
  show PySem.W.alike (.tuple _) (.tuple _) = true
  rw [PySem.W.alike]
  exact h S T
abbrev leD (d e : PyData) : Bool := PySem.W.dataLe false (fun d : PyData => d) d e
theorem leD_le : PySem.W.TotalLe leD := PySem.W.sortLe_total (PyProof.Rows.listOrd PyProof.Rows.itemOrd) false fun d => PySem.W.keyToks d
end DL
namespace DL
open PySem PySem.Spec PyProof.Rows L2
theorem dSp_inj {S T : List (List Int)} (e : dSp S = dSp T) : S = T := by
  have h1 : PyData.eqv (dSp S) (dSp T) = decide (S = T) := enc_sp.eqv S T
  have h2 : PyData.eqv (dSp T) (dSp T) = decide (T = T) := enc_sp.eqv T T
  rw [e, h2, decide_eq_true rfl] at h1
  exact of_decide_eq_true h1.symm
theorem leD_anti {S T : List (List Int)} (h1 : leD (dSp S) (dSp T) = true) (h2 : leD (dSp T) (dSp S) = true) : S = T := by
  have e1 : PyProof.Rows.lexLt itemOrd (PySem.W.keyToks (dSp T)) (PySem.W.keyToks (dSp S)) = false := by
    have : (!PyProof.Rows.lexLt itemOrd (PySem.W.keyToks (dSp T)) (PySem.W.keyToks (dSp S))) = true := h1
    simpa using this
  have e2 : PyProof.Rows.lexLt itemOrd (PySem.W.keyToks (dSp S)) (PySem.W.keyToks (dSp T)) = false := by
    have : (!PyProof.Rows.lexLt itemOrd (PySem.W.keyToks (dSp S)) (PySem.W.keyToks (dSp T))) = true := h2
    simpa using this
  have et := lex_total _ _ e2 e1
  obtain ⟨_, k2⟩ := PySem.W.toks_eqv (dSp S) (dSp T) (alike_sp S T)
  cases ev : PyData.eqv (dSp S) (dSp T) with
  | true =>
    have this : PyData.eqv (dSp S) (dSp T) = decide (S = T) := enc_sp.eqv S T
    rw [ev] at this
    exact of_decide_eq_true this.symm
  | false =>
    have q := k2 ev [] [.inl 0]
    rw [et, lex_irrefl, PySem.W.lex_pre] at q
    cases q
theorem sorted_leD (ds : List PyData) : (ds.mergeSort leD).Pairwise fun d e => leD d e = true := List.pairwise_mergeSort (le := leD) (fun a b c => leD_le.trans a b c) (fun a b => by
  rcases leD_le.total a b with h | h <;> simp [h]) ds
theorem sort_one {bs : List (Addr × PyData)} {Ss : List (List (List Int))} (nd : (bs.map (·.2)).Nodup) (hm : ∀ d, d ∈ bs.map (·.2) ↔ d ∈ Ss.map dSp) : (SN.sortB bs).map (·.2) = (riseS Ss).map dSp := by
  have e1 : (SN.sortB bs).map (·.2) = (bs.map (·.2)).mergeSort leD := (List.map_mergeSort (r := PySem.W.dataLe false (·.2)) (s := leD) (f := fun b : Addr × PyData => b.2) fun _ _ _ _ => rfl)
  have e2 : (riseS Ss).map dSp = ((onceS Ss).map dSp).mergeSort leD := (List.map_mergeSort (r := PySem.W.dataLe false dSp) (s := leD) (f := dSp) fun _ _ _ _ => rfl)
  rw [e1, e2]
  have nd2 : ((onceS Ss).map dSp).Nodup := by
    have := onceS_nodup Ss
    rw [List.Nodup, List.pairwise_map]
    exact this.imp fun {a b} h e => h (dSp_inj e)
  have mem2 : ∀ d, d ∈ (onceS Ss).map dSp ↔ d ∈ Ss.map dSp := fun d => by
    rw [List.mem_map, List.mem_map]
    exact ⟨fun ⟨S, h, e⟩ => ⟨S, onceS_mem.mp h, e⟩, fun ⟨S, h, e⟩ => ⟨S, onceS_mem.mpr h, e⟩⟩
  have perm : (bs.map (·.2)).Perm ((onceS Ss).map dSp) := (List.perm_ext_iff_of_nodup nd nd2).mpr fun d => by rw [hm, mem2]
  refine List.Perm.eq_of_pairwise (le := fun d e => leD d e = true) (fun a b ha hb h1 h2 => ?_) (sorted_leD _) (sorted_leD _) ((List.mergeSort_perm _ _).trans (perm.trans (List.mergeSort_perm _ _).symm))
  obtain ⟨S, _, rfl⟩ := List.mem_map.mp ((hm a).mp ((List.mergeSort_perm _ _).mem_iff.mp ha))
  obtain ⟨T, _, rfl⟩ := List.mem_map.mp ((List.mergeSort_perm _ _).mem_iff.mp hb)
  rw [leD_anti h1 h2]
theorem okKey_row : ∀ r : List Int, SN.okKeys (r.map .int) = true
  | [] => rfl
  | i :: r => by
    show (SN.okKey (.int i) && SN.okKeys (r.map .int)) = true
    rw [okKey_row r]; rfl
theorem okKey_sp : ∀ S : List (List Int), SN.okKeys (S.map dT) = true
  | [] => rfl
  | r :: S => by
    show (SN.okKeys (r.map .int) && SN.okKeys (S.map dT)) = true
    rw [okKey_row r, okKey_sp S]; rfl
section
variable {K : PySem.W.Frag} {Hb : Hp} {ρ : List Addr}
theorem split_sp : ∀ {Ss : List (List (List Int))} {ys : List V}, Reps K Hb ρ ys (Ss.map Sp') → ∃ ks : List (Addr × PyData), ys = ks.map (fun p => V.ref p.1) ∧ ks.map (·.2) = Ss.map dSp ∧ ∀ p ∈ ks, ∃ S, p.2 = dSp S ∧ Rep K Hb ρ (.ref p.1) (Sp' S)
  | [], _, r => by cases r; exact ⟨[], rfl, rfl, fun p hp => nomatch hp⟩
  | S :: Ss, _, r => by
    cases r with
    | cons r1 r2 =>
      obtain ⟨ks, h1, h2, h3⟩ := split_sp r2
      have r1' := r1
      cases r1 with
      | tup ha hr =>
        rename_i a xs
        refine ⟨(a, dSp S) :: ks, by rw [h1]; rfl, by rw [List.map_cons, h2]; rfl, fun p hp => ?_⟩
        rcases List.mem_cons.mp hp with rfl | hp
        · exact ⟨S, rfl, r1'⟩
        · exact h3 p hp
theorem reps_sp : ∀ {bs : List (Addr × PyData)} {Ts : List (List (List Int))}, bs.map (·.2) = Ts.map dSp → (∀ p ∈ bs, ∃ S, p.2 = dSp S ∧ Rep K Hb ρ (.ref p.1) (Sp' S)) → Reps K Hb ρ (bs.map fun p => V.ref p.1) (Ts.map Sp')
  | [], [], _, _ => .nil
  | [], _ :: _, e, _ => nomatch e
  | _ :: _, [], e, _ => nomatch e
  | b :: bs, T :: Ts, e, h => by
    rw [List.map_cons, List.map_cons] at e
    injection e with e1 e2
    obtain ⟨S, h1, h2⟩ := h b List.mem_cons_self
    rw [h1] at e1
    rw [← dSp_inj e1]
    exact .cons h2 (reps_sp e2 fun p hp => h p (List.mem_cons_of_mem _ hp))
end
end DL
namespace DL
open PySem PySem.Spec PyProof.Rows L2
def gSortSetS : List DV → DH → Option DV := g1 fun w _ => (lstOf w).bind fun ws => (spsI ws).bind fun Ss => if Ss.length ≤ 60 ∧ ((∀ S ∈ Ss, S ≠ []) ∨ Ss.length = 1) then some (.lst ((riseS Ss).map Sp')) else none
section
variable {X : Cx} {E : L2.St → XK} {e : Expr} {pos p p2 q : Pos} {dr : DA}
theorem se_sortSetS {j : Nat} (hc : X.calm = true) (hr : Room j X.A) (hg : Gl X "sorted") (hm : X.mg "sorted" = none) (hg2 : Gl X "set") (hm2 : X.mg "set" = none) (ha : SA X E [e] dr)
    (hs : starEach [e] X.env = (false, eval e X.env) :: starEach [] X.env := by rfl) (hpl : (backTo q (starEach [] X.env)).any (·.1) = false := by rfl) :
    SE X E (.Call (.Name "sorted" p) [.Call (.Name "set" p2) [e] [] q] [] pos) (dFn gSortSetS dr) := by
  have hu : X.A.units + 64 < cLine := by have := hr.un; omega
  refine (pe_callB (SN.cr_sortedN hc hu) hg hm rfl (pa_cons (pe_callTy (SN.cr_setN hc hu) hg2 hm2 rfl ha (by decide) (by decide) hs hpl) pa_nil)).weak fun s H Q ⟨Hb, ρ, F0, Fr, σ, h, R, x, k⟩ => ?_
  refine ⟨Hb, ρ, F0, Fr, σ, h, R, x, (Rz.bind k).imp (fun ws h1 k => ?_) fun _ _ z => z⟩
  obtain ⟨w, ew, k⟩ := Rz.ofO k
  intro Hb1 ρ1 H1 vs s1 p1 R1 r1
  cases r1 with
  | nil => cases ew
  | cons r1 rr =>
    cases rr with
    | cons _ _ => cases ew
    | nil =>
      rename_i v0 w0
      have ew : ((lstOf w0).bind fun ws => (spsI ws).bind fun Ss => if Ss.length ≤ 60 ∧ ((∀ S ∈ Ss, S ≠ []) ∨ Ss.length = 1) then some (DV.lst ((riseS Ss).map Sp')) else none) = some w := ew
      obtain ⟨us, e1, ew⟩ := Option.bind_eq_some_iff.mp ew
      obtain ⟨Ss, e2, ew⟩ := Option.bind_eq_some_iff.mp ew
      obtain ⟨a, ys, ex, hq, ry⟩ := lstR_of R1 r1 e1
      rw [spsI_back e2] at ry
      obtain ⟨ks, k1, k2, k3⟩ := split_sp ry
      have hks : ks.length = Ss.length := by rw [← List.length_map (f := fun b : Addr × PyData => b.2), k2, List.length_map]
      by_cases c : Ss.length ≤ 60 ∧ ((∀ S ∈ Ss, S ≠ []) ∨ Ss.length = 1)
      · rw [if_pos c] at ew
        cases ew
        have good : ∀ {Hb' : Hp} {ρ' : List Addr} {Fr' H' : Hp} {h' : DH}, Same Hb1 Hb' → ρ1 <+: ρ' → Rel X.K Hb' ρ' Fr' h' H' → ∀ b ∈ ks, Dp X.K H' (.ref b.1) b.2 ∧ SN.okKey b.2 = true ∧ b.2.depth ≤ 8 := fun s2 p2 R2 b hb => by
          obtain ⟨S, e3, r3⟩ := k3 b hb
          have dep := enc_sp.dep S
          rw [e3]
          exact ⟨dp_of R2 (r3.mono s2 p2) (enc_sp.py S), okKey_sp S, Nat.le_trans dep (by decide)⟩
        refine ⟨a, ks, by rw [ex], by rw [← k1]; exact hq, good (Same.refl _) (List.prefix_refl _) R1, by omega, fun b L hb l1 l2 l3 => ?_⟩
        obtain ⟨s2, R2⟩ := R1.new hb (SN.BoxO X.prog X.w b L)
        have memL : ∀ d, d ∈ L.map (·.2) ↔ d ∈ Ss.map dSp := fun d => by
          rw [← k2]
          constructor
          · intro z
            obtain ⟨b', hb', rfl⟩ := List.mem_map.mp z
            exact List.mem_map.mpr ⟨b', l1 b' hb', rfl⟩
          · intro z
            obtain ⟨b', hb', rfl⟩ := List.mem_map.mp z
            exact l2 b' hb'
        have isSp : ∀ d ∈ L.map (·.2), ∃ S ∈ Ss, d = dSp S := fun d hd => by
          obtain ⟨S, hS, e3⟩ := List.mem_map.mp ((memL d).mp hd)
          exact ⟨S, hS, e3.symm⟩
        refine ⟨b, L, rfl, upd_same, fun b' hb' => good s2 (List.prefix_refl _) R2 b' (l1 b' hb'), fun d hd d' hd' => ?_, ?_, fun L1 d pm hd => ?_⟩
        · obtain ⟨S, _, rfl⟩ := isSp d hd
          obtain ⟨T, _, rfl⟩ := isSp d' hd'
          exact alike_sp S T
        · rcases c.2 with c2 | c2
          · refine .inl (.inl fun d hd => ?_)
            obtain ⟨S, hS, rfl⟩ := isSp d hd
            cases S with
            | nil => exact absurd rfl (c2 [] hS)
            | cons r S => exact ⟨_, _, rfl⟩
          · refine .inr ?_
            obtain ⟨S, rfl⟩ := List.length_eq_one_iff.mp c2
            match L, l3, memL with
            | [], _, memL => exact absurd ((memL (dSp S)).mpr List.mem_cons_self) List.not_mem_nil
            | [_], _, _ => rfl
            | b1 :: b2 :: L, l3, memL =>
              have h1 := (memL b1.2).mp List.mem_cons_self
              have h2 := (memL b2.2).mp (List.mem_cons_of_mem _ List.mem_cons_self)
              rw [List.map_cons, List.map_nil, List.mem_singleton] at h1 h2
              have := (List.nodup_cons.mp l3).1
              exact absurd (show b1.2 ∈ (b2 :: L).map (·.2) by rw [h1, ← h2]; exact List.mem_cons_self) this
        · refine Pst.lst R2 (Pst.back (s1.trans s2) p1 _ _ k) (reps_sp (sort_one ((pm.map (·.2)).nodup_iff.mpr l3) fun d => by rw [(pm.map (·.2)).mem_iff, memL]) fun b' hb' => ?_) d hd
          have hb2 := l1 b' (pm.mem_iff.mp ((List.mergeSort_perm _ _).mem_iff.mp hb'))
          obtain ⟨S, e3, r3⟩ := k3 b' hb2
          exact ⟨S, e3, r3.mono s2 (List.prefix_refl _)⟩
      · rw [if_neg c] at ew; cases ew
end
end DL
namespace SN
open PySem PySem.Spec PyProof.Rows PySem.SeqAt L2
abbrev LD := List ((Addr × PyData) × Int)
def xsD (L : LD) (ts : List Tok) : List (NestedKey × Addr × Value) := (L.zip ts).map fun q => (key q.1.1.2, q.1.1.1, Value.int q.1.2 q.2)
section
variable {P : Program} {w : World}
structure DBox (P : Program) (w : World) (h : Heap) (a : Addr) (L : LD) : Prop where
  ex : ∃ (o : Obj) (es : Array DictEntry) (ep : Nat) (ts : List Tok), h.get? a = some o ∧ o.ExactDict ∧ o.data = .dict es ep ∧ ts.length = L.length ∧ es.toList = (xsD L ts).map (entryOfKey (nestedKind P w))
  nd : (L.map fun x => key x.1.2).Nodup
  few : L.length ≤ 1000
  own : (a == sysModules) = false
def DBoxO (P : Program) (w : World) (a : Addr) (L : LD) : HO := .ext fun h => DBox P w h a L
theorem dbox_new {H : Hp} {h : Heap} {a : Addr} {L : LD} (B : DBox P w h a L) : ObjOk P w H h a (DBoxO P w a L) := by
  obtain ⟨o, es, ep, ts, ho, _⟩ := id B.ex
  refine ⟨B, ⟨o, ho⟩, fun h1 h2 p k => ?_⟩
  obtain ⟨o', es', ep', ts', ho', rest⟩ := p.ex
  exact ⟨⟨o', es', ep', ts', k o' ho', rest⟩, p.nd, p.few, p.own⟩
theorem xsD_keys (L : LD) : ∀ (ts : List Tok), ts.length = L.length → (xsD L ts).map (·.1) = L.map fun x => key x.1.2 := by
  induction L with
  | nil => intro ts _; cases ts <;> rfl
  | cons x L ih =>
    intro ts h
    cases ts with
    | nil => cases h
    | cons t ts =>
      show key x.1.2 :: (xsD L ts).map (·.1) = _
      rw [ih ts (by simpa using h)]; rfl
theorem DBox.dict {h : Heap} {a : Addr} {L : LD} (B : DBox P w h a L) (hk : ∀ x ∈ L, At h (key x.1.2) x.1.1) : ∃ ts : List Tok, ts.length = L.length ∧ h.DictOfH (nestedKind P w) a (xsD L ts) := by
  obtain ⟨o, es, ep, ts, h1, h2, h3, h4, h5⟩ := B.ex
  refine ⟨ts, h4, o, es, ep, h1, h2, h3, h5, fun x hx => ?_, by rw [xsD_keys L ts h4]; exact B.nd⟩
  obtain ⟨q, hq, rfl⟩ := List.mem_map.mp hx
  exact ⟨(hk q.1 (List.of_mem_zip hq).1).is, (hk q.1 (List.of_mem_zip hq).1).dep⟩
theorem DBox.mk' {h : Heap} {a : Addr} {L : LD} {ts : List Tok} (h4 : ts.length = L.length) (D : h.DictOfH (nestedKind P w) a (xsD L ts)) (few : L.length ≤ 1000) (own : (a == sysModules) = false) : DBox P w h a L := by
  obtain ⟨o, es, ep, h1, h2, h3, h5, _, h7⟩ := D
  exact ⟨⟨o, es, ep, ts, h1, h2, h3, h4, h5⟩, by rw [← xsD_keys L ts h4]; exact h7, few, own⟩
def lkD (L : LD) (d : PyData) : Option Int := (L.find? fun x => decide (key x.1.2 = key d)).map (·.2)
def ptD (L : LD) (b : Addr) (d : PyData) (i : Int) : LD := if (lkD L d).isSome then L.map fun x => if key x.1.2 = key d then (x.1, i) else x else L ++ [((b, d), i)]
theorem atKey_xsD (d : PyData) : ∀ (L : LD) (ts : List Tok), ts.length = L.length →
    (atKey (xsD L ts) (key d) = none ∧ lkD L d = none) ∨ ∃ b i t, atKey (xsD L ts) (key d) = some (b, .int i t) ∧ lkD L d = some i
  | [], ts, _ => .inl ⟨by cases ts <;> rfl, rfl⟩
  | x :: L, [], h => by cases h
  | x :: L, t :: ts, h => by
    by_cases e : key x.1.2 = key d
    · refine .inr ⟨x.1.1, x.2, t, ?_, ?_⟩
      · show ((((key x.1.2, x.1.1, Value.int x.2 t) :: xsD L ts).find? fun y => decide (y.1 = key d)).map (·.2)) = _
        rw [List.find?_cons, decide_eq_true e]; rfl
      · unfold lkD
        rw [List.find?_cons, decide_eq_true e]; rfl
    · have h1 : atKey (xsD (x :: L) (t :: ts)) (key d) = atKey (xsD L ts) (key d) := by
        show ((((key x.1.2, x.1.1, Value.int x.2 t) :: xsD L ts).find? fun y => decide (y.1 = key d)).map (·.2)) = _
        rw [List.find?_cons, decide_eq_false e]; rfl
      have h2 : lkD (x :: L) d = lkD L d := by
        unfold lkD
        rw [List.find?_cons, decide_eq_false e]
      rw [h1, h2]
      exact atKey_xsD d L ts (by simpa using h)
theorem stored_xsD (d : PyData) (b : Addr) (i : Int) (t : Tok) (L : LD) (ts : List Tok) (h : ts.length = L.length) : ∃ ts' : List Tok, ts'.length = (ptD L b d i).length ∧ storedH (xsD L ts) (key d) b (.int i t) = xsD (ptD L b d i) ts' := by
  rcases atKey_xsD d L ts h with ⟨h1, h2⟩ | ⟨c, j, u, h1, h2⟩
  · rw [storedH_new h1]
    unfold ptD
    rw [h2]
    refine ⟨ts ++ [t], by show (ts ++ [t]).length = (L ++ [((b, d), i)]).length; rw [List.length_append, List.length_append, h]; rfl, ?_⟩
    show _ = xsD (L ++ [((b, d), i)]) (ts ++ [t])
    unfold xsD
    rw [List.zip_append h.symm, List.map_append]; rfl
  · rw [storedH_old h1]
    unfold ptD
    rw [h2]
    show ∃ ts', ts'.length = (L.map fun x => if key x.1.2 = key d then (x.1, i) else x).length ∧ (xsD L ts).map (putAt (key d) (.int i t)) = xsD (L.map fun x => if key x.1.2 = key d then (x.1, i) else x) ts'
    clear h1 h2
    induction L generalizing ts with
    | nil => exact ⟨[], rfl, by cases ts <;> rfl⟩
    | cons x L ih =>
      cases ts with
      | nil => cases h
      | cons v ts =>
        obtain ⟨ts', e1, e2⟩ := ih ts (by simpa using h)
        by_cases e : key x.1.2 = key d
        · refine ⟨t :: ts', by rw [List.map_cons, List.length_cons, List.length_cons, e1], ?_⟩
          show putAt (key d) (.int i t) (key x.1.2, x.1.1, Value.int x.2 v) :: (xsD L ts).map _ = _
          rw [e2, List.map_cons, if_pos e]
          unfold putAt
          rw [if_pos e]; rfl
        · refine ⟨v :: ts', by rw [List.map_cons, List.length_cons, List.length_cons, e1], ?_⟩
          show putAt (key d) (.int i t) (key x.1.2, x.1.1, Value.int x.2 v) :: (xsD L ts).map _ = _
          rw [e2, List.map_cons, if_neg e]
          unfold putAt
          rw [if_neg e]; rfl
end
end SN
namespace SN
open PySem PySem.Spec PyProof.Rows PySem.SeqAt L2 DL
section
variable {X : Cx} {pins : List (Addr × Obj)} {σ : L2.St} {H : Hp} {s : Shared} {a b : Addr} {L : LD} {d : PyData} {A : Around} {E : Value → Shared → Prop}
def KeyOk (K : PySem.W.Frag) (H : Hp) (p : Addr × PyData) : Prop := Dp K H (.ref p.1) p.2 ∧ okKey p.2 = true ∧ p.2.depth ≤ 8
theorem rdbox (I : Inv X pins σ H s) (e : Rd H a (DBoxO X.prog X.w a L)) : DBox X.prog X.w s.heap a L := (e.ok I.hok).1
theorem at_key (I : Inv X pins σ H s) {p : Addr × PyData} (h : KeyOk X.K H p) : At s.heap (key p.2) p.1 := at_dp I h
theorem n_get2 {Q : Value → Shared → Prop} {u r : Value} {z : V} (hu : A.units + 64 < cLine) (I : Inv X pins σ H s) (e : Rd H a (DBoxO X.prog X.w a L)) (ks : ∀ x ∈ L, KeyOk X.K H x.1) (ry : u = .ref b) (kd : KeyOk X.K H (b, d)) (rd : RelV z r)
    (h : ∀ w' s', Inv X pins σ H s' → RelV (((lkD L d).map V.int).getD z) w' → Q w' s') : wpAny (model X.prog X.w) A (call (.builtin "dict.get") [.ref a, u, r]) Q E s := by
  subst ry
  have B := rdbox I e
  obtain ⟨ts, hts, D⟩ := B.dict fun x hx => at_key I (ks x hx)
  have hk := at_key I kd
  refine call_meetsIn PySem.F.slot_dict_get D.typeIs PySem.F.entry_dict_get (PySem.F.args_dict_get_3 _ _ _) (meetsH_dict_get_default (nestedKind X.prog X.w) a b B.own r) ⟨show A.in1.units + 8 < cLine from by show A.units + 1 + 8 < cLine; omega, key d, xsD L ts, ⟨hk.is, hk.dep⟩, D, h _ _ (I.tok _) ?_⟩
  rcases atKey_xsD d L ts hts with ⟨h1, h2⟩ | ⟨c, i, t, h1, h2⟩
  · rw [h1, h2]; exact rd
  · rw [h1, h2]; exact ⟨t, rfl⟩
theorem n_getItem {Q : Value → Shared → Prop} {u : Value} {i : Int} (hu : A.units + 64 < cLine) (I : Inv X pins σ H s) (e : Rd H a (DBoxO X.prog X.w a L)) (ks : ∀ x ∈ L, KeyOk X.K H x.1) (ry : u = .ref b) (kd : KeyOk X.K H (b, d)) (hl : lkD L d = some i)
    (h : ∀ w' s', Inv X pins σ H s' → RelV (V.int i) w' → Q w' s') : wpAny (model X.prog X.w) A (getItem (.ref a) u) Q E s := by
  subst ry
  have B := rdbox I e
  obtain ⟨ts, hts, D⟩ := B.dict fun x hx => at_key I (ks x hx)
  have hk := at_key I kd
  rcases atKey_xsD d L ts hts with ⟨h1, h2⟩ | ⟨c, j, t, h1, h2⟩
  · rw [h2] at hl; cases hl
  · rw [h2] at hl; cases hl
    exact wpAny_getItem_heap (knd := nestedKind X.prog X.w) (show A.in1.units + 8 < cLine from by show A.units + 1 + 8 < cLine; omega) ⟨hk.is, hk.dep⟩ D h1 (h _ _ (I.tok _) ⟨t, rfl⟩)
theorem ptD_len (L : LD) (b : Addr) (d : PyData) (i : Int) : (ptD L b d i).length ≤ L.length + 1 := by
  unfold ptD
  split
  · rw [List.length_map]; omega
  · rw [List.length_append]; exact Nat.le_refl _
theorem n_setItem {Q : Unit → Shared → Prop} {u r : Value} {i : Int} (hu : A.units + 64 < cLine) (I : Inv X pins σ H s) (e : H a = some (DBoxO X.prog X.w a L)) (ks : ∀ x ∈ L, KeyOk X.K H x.1) (few : L.length < 1000) (ry : u = .ref b) (kd : KeyOk X.K H (b, d)) (rv : RelV (V.int i) r)
    (h : ∀ s', Inv X pins σ (upd H a (DBoxO X.prog X.w a (ptD L b d i))) s' → Q () s') : wpAny (model X.prog X.w) A (setItem (.ref a) u r) Q E s := by
  subst ry
  obtain ⟨t, rfl⟩ := rv
  have B := rdbox I (Rd.of e)
  obtain ⟨ts, hts, D⟩ := B.dict fun x hx => at_key I (ks x hx)
  have hk := at_key I kd
  have hz : (xsD L ts).length ≤ sizeLine := by
    unfold xsD
    rw [List.length_map, List.length_zip, sizeLine_eq]; omega
  refine wpAny_setItem_heap (knd := nestedKind X.prog X.w) (hsz := hz) (show A.in1.units + 8 < cLine from by show A.units + 1 + 8 < cLine; omega) ⟨hk.is, hk.dep⟩ D fun h' D' hs => h _ ?_
  · obtain ⟨ts', e1, e2⟩ := stored_xsD d b i t L ts hts
    rw [e2] at D'
    obtain ⟨q, hq⟩ : ∃ q, h'.get? a = some q := let ⟨q, _, _, hq, _⟩ := D'; ⟨q, hq⟩
    exact d_write I (by rw [e]; exact True.intro) hs ⟨q, hq⟩ (dbox_new (DBox.mk' e1 D' (by have := ptD_len L b d i; omega) B.own))
end
end SN
namespace SN
open PySem PySem.Spec PyProof.Rows PySem.SeqAt L2 DL
section
variable {prog : Program} {w : World} {A : Around} {E : Value → Shared → Prop} {s : Shared}
theorem meets_len_ent {d : Addr} (hd : (d == sysModules) = false) :
    MeetsIn prog w (Builtin.«dict.__len__» ⟨[.ref d], []⟩) (fun _ R s => ∃ (o : Obj) (es : Array DictEntry) (ep : Nat), s.heap.get? d = some o ∧ o.data = .dict es ep ∧ R (.ok (.ret (.int es.size s.toks))) { s with toks := s.toks + 1 }) :=
  .of_wp fun A R s ⟨o, es, ep, ho, hdat, h⟩ => by
    show wpAny _ _ (dictSize d >>= _) _ _ s
    unfold dictSize
    refine wpAny_bind (wpAny_bind (wpAny_dictEntries ho hdat (wpAny_pure ?_)))
    show wpAny _ _ (Builtin.Dict.pendingCount d >>= _) _ _ s
    refine wpAny_bind (wpAny_pendingCount_other hd ?_)
    refine wpAny_ret_mkInt ?_
    rw [Nat.add_zero]; exact h
theorem call_len_ent {d : Addr} {o : Obj} {es : Array DictEntry} {ep : Nat} {Q : Value → Shared → Prop} (hd : (d == sysModules) = false) (ho : s.heap.get? d = some o) (hc : o.ExactDict) (hdat : o.data = .dict es ep) (hfit : (es.size : Int) < 2 ^ 63)
    (h : Q (.int es.size (s.toks + 1)) { s with toks := s.toks + 1 + 1 }) : wpAny (model prog w) A (call (.builtin "len") [.ref d]) Q E s := by
  have ty : s.TypeIs (.ref d) "dict" := ⟨o, ho, hc.1⟩
  refine Calls.call_function_entry kind_len plain_len entry_len (args_len1 _) ?_
  unfold Builtin.«len»
  refine wpAny_bind (m := oneArg "len" _) (wpAny_pure ?_)
  refine wpAny_bind (m := callSpecial? (.ref d) (Str.ofString "__len__")) (wpAny_callSpecial?_slot (name := Str.ofString "__len__") ty F.slot_dict_len
    (call_meetsIn F.slot_dict_len ty F.entry_dict_len (F.args_dict_len_1 _) (meets_len_ent hd) ⟨o, es, ep, ho, hdat, ?_⟩))
  show wpAny _ _ _ _ _ { s with toks := s.toks + 1 }
  refine wpAny_bind (wpAny_holding (wpAny_pure ?_))
  refine wpAny_bind (wpAny_letGo ?_)
  show wpAny _ _ (if ((es.size : Nat) : Int) < 0 then _ else _) _ _ _
  rw [if_neg (by omega)]
  show wpAny _ _ (if ((es.size : Nat) : Int) ≥ 2 ^ 63 then _ else _) _ _ _
  rw [if_neg (by omega)]
  exact wpAny_bind (wpAny_mkInt (wpAny_pure ⟨_, rfl, h⟩))
end
section
variable {X : Cx} {pins : List (Addr × Obj)} {σ : L2.St} {H : Hp} {s : Shared} {a : Addr} {L : LD} {A : Around} {E : Value → Shared → Prop}
theorem n_len {Q : Value → Shared → Prop} (I : Inv X pins σ H s) (e : Rd H a (DBoxO X.prog X.w a L)) (h : ∀ t s', Inv X pins σ H s' → Q (.int L.length t) s') : wpAny (model X.prog X.w) A (call (.builtin "len") [.ref a]) Q E s := by
  have B := rdbox I e
  obtain ⟨o, es, ep, ts, h1, h2, h3, h4, h5⟩ := B.ex
  have hz : es.size = L.length := by
    rw [← Array.length_toList, h5, List.length_map]
    unfold xsD
    rw [List.length_map, List.length_zip]; omega
  refine call_len_ent B.own h1 h2 h3 (by rw [hz]; have := B.few; omega) ?_
  rw [hz]
  exact h _ _ (I.tok _)
theorem n_new {Q : Value → Shared → Prop} (I : Inv X pins σ H s) (hs : (s.heap.objs.size == sysModules) = false) (h : ∀ s', Inv X pins σ (upd H s.heap.objs.size (DBoxO X.prog X.w s.heap.objs.size [])) s' → Q (.ref s.heap.objs.size) s') :
    Q (.ref s.heap.objs.size) { s with heap := s.heap.push { cls := .type "dict", data := .dict #[] } } :=
  h _ (I.laid (t' := s.toks) (fun _ _ q => Heap.get?_push_of_some _ q) (Nat.le_refl _) (dbox_new (DBox.mk' (ts := []) rfl (Heap.DictOfH.new s.heap) (by show 0 ≤ 1000; omega) hs)))
theorem n_entry {i : Nat} {x : (Addr × PyData) × Int} {h : Heap} (B : DBox X.prog X.w h a L) (hx : L[i]? = some x) : ∃ (o : Obj) (es : Array DictEntry) (ep : Nat) (en : DictEntry), h.get? a = some o ∧ o.ExactDict ∧ o.data = .dict es ep ∧ es.size = L.length ∧ es[i]? = some en ∧ en.key = .ref x.1.1 := by
  obtain ⟨o, es, ep, ts, h1, h2, h3, h4, h5⟩ := B.ex
  have hz : es.size = L.length := by
    rw [← Array.length_toList, h5, List.length_map]
    unfold xsD
    rw [List.length_map, List.length_zip]; omega
  have hi : i < L.length := (List.getElem?_eq_some_iff.mp hx).1
  obtain ⟨t, ht⟩ : ∃ t, ts[i]? = some t := ⟨_, List.getElem?_eq_getElem (by omega)⟩
  refine ⟨o, es, ep, entryOfKey (nestedKind X.prog X.w) (key x.1.2, x.1.1, .int x.2 t), h1, h2, h3, hz, ?_, rfl⟩
  rw [← Array.getElem?_toList, h5, List.getElem?_map]
  unfold xsD
  have hz2 : (L.zip ts)[i]? = some (x, t) := List.getElem?_zip_eq_some.mpr ⟨hx, ht⟩
  rw [List.getElem?_map, hz2]; rfl
end
end SN
namespace SN
open PySem PySem.Spec PyProof.Rows PySem.SeqAt L2 DL
section
variable {X : Cx} {pins : List (Addr × Obj)} {σ : L2.St} {H : Hp} {s : Shared} {a d : Addr} {o : Obj} {L : LD}
theorem frzN (I : Inv X pins σ H s) (h : H d = some (.frz o (DBoxO X.prog X.w d L))) :
    (d == sysModules) = false ∧ s.heap.get? d = some o ∧ o.ExactDict ∧ ∃ (es : Array DictEntry) (ep : Nat), o.data = .dict es ep ∧ es.size = L.length ∧
      ∀ (i : Nat) (x : (Addr × PyData) × Int), L[i]? = some x → ∃ (en : DictEntry), es[i]? = some en ∧ en.key = .ref x.1.1 := by
  obtain ⟨hd, q⟩ := I.hok d _ h
  have B : DBox X.prog X.w s.heap d L := q.1
  obtain ⟨o', es, ep, ts, h1, h2, h3, h4, h5⟩ := B.ex
  rw [hd] at h1
  cases h1
  have hz : es.size = L.length := by
    rw [← Array.length_toList, h5, List.length_map]
    unfold xsD
    rw [List.length_map, List.length_zip]; omega
  refine ⟨B.own, hd, h2, es, ep, h3, hz, fun i x hx => ?_⟩
  obtain ⟨o2, es2, ep2, en, g1, g2, g3, g4, g5, g6⟩ := n_entry B hx
  rw [hd] at g1
  cases g1
  rw [h3] at g3
  cases g3
  exact ⟨en, g5, g6⟩
def Itn (P : Program) (w : World) (d : Addr) (o : Obj) (L : LD) : It :=
  ⟨fun i H => H d = some (.frz o (DBoxO P w d L)) ∧ i < L.length, fun i H x H' => H' = H ∧ ∃ y, L[i]? = some y ∧ x = .ref y.1.1, fun i H => H d = some (.frz o (DBoxO P w d L)) ∧ L.length ≤ i⟩
end
section
variable {P : Program} {w : World} {K : PySem.W.Frag} {tg : Expr} {d : Addr} {o : Obj} {es : Array DictEntry} {ep : Nat}
theorem turn_keysN {L : LD} (it : Addr) (hod : o.data = .dict es ep) : Turn P w K tg (Itn P w d o L) [it] it (fun i h => h.IsKeyIter it d i L.length ep) where
  mem := by simp
  obj := fun i h st b hb => by
    have e : b = it := by simpa using hb
    subst e
    obtain ⟨oi, e, c, dd⟩ := st
    exact ⟨oi, e, fun v z => by rw [dd] at z; cases z⟩
  keep := fun i h h' st k => st.at fun oi e => k it (by simp) oi e
  item := by
    intro X hP hw hK hc i pins s σ H E I hf st hg
    subst hP hw hK
    obtain ⟨hd, hi⟩ := hg
    obtain ⟨f0, f1, f2, f3, f4, f5⟩ := hf it (by simp)
    obtain ⟨hs, hgd, hx, es', ep', hdt, hsz, ent⟩ := frzN I hd
    obtain ⟨rfl, rfl⟩ := dict_ep hod hdt
    obtain ⟨y, hy⟩ : ∃ y, L[i]? = some y := ⟨L[i], List.getElem?_eq_getElem hi⟩
    obtain ⟨en, hen, hkey⟩ := ent i y hy
    refine next_key_item st hgd hdt hsz hen fun h' st' sb => ?_
    have I1 : Inv X pins σ H { s with heap := h' } := I.turned (t' := s.toks) (fun b ob hb e => (sb.2 b hb).trans e) f0 f1 f3 f4 f5
    obtain ⟨oi, e, c, dd⟩ := id st'
    exact ⟨en.key, rfl, go_of (s := { s with heap := h' }) e c dd (by decide) ⟨.ref y.1.1, H, I1, hkey, ⟨rfl, y, hy, rfl⟩, st', fun b hb => (hf b hb).1⟩⟩
  done := by
    intro X hP hw hK hc i pins s σ H E I hf st hg
    subst hP hw hK
    obtain ⟨hd, hi⟩ := hg
    obtain ⟨f0, f1, f2, f3, f4, f5⟩ := hf it (by simp)
    obtain ⟨hs, hgd, hx, es', ep', hdt, hsz, ent⟩ := frzN I hd
    obtain ⟨rfl, rfl⟩ := dict_ep hod hdt
    exact next_key_end (I.ok.hd hc) st hgd hdt hsz hi fun h' eb => ⟨rfl, I.turned (t' := s.toks) (fun b ob hb e => eb b ob hb e) f0 f1 f3 f4 f5⟩
  self := fun A i s Q E st h => by
    refine wpAny_pyIter_slot st.typeIs F.slot_dict_keyiterator_iter (wpAny_call_entry F.slot_dict_keyiterator_iter st.typeIs F.entry_dict_keyiterator_iter ?_ (F.args_dict_keyiterator_iter_1 _))
    show wpAny _ _ (ret (.ref it)) _ _ s
    exact wpAny_pure ⟨_, rfl, "dict_keyiterator", _, st.typeIs, F.slot_dict_keyiterator_next.lookup, h⟩
end
def iKeysN (P : Program) (w : World) (td : TE) : TI := fun σ H R => td σ H fun x H1 => ∃ d o L, x = .ref d ∧ H1 d = some (.frz o (DBoxO P w d L)) ∧ R (Itn P w d o L) H1
section
variable {X : Cx} {tg e : Expr} {td : TE}
theorem pi_keysN (he : PE X e td) : PI X tg e (iKeysN X.prog X.w td) := by
  refine ⟨fun pins s σ H R I h => ?_⟩
  refine thn (he.run pins s σ H _ I h) fun u s1 ⟨x, H1, I1, rx, d, o, L, ex, hd, q⟩ => ?_
  subst ex
  obtain rfl : u = Value.ref d := rx
  obtain ⟨hs, hgd, hx, es, ep, hdt, hsz, ent⟩ := frzN I1 hd
  refine iter_keys hs hgd hx hdt (pi_one (tk := s1.toks) I1 _ (turn_keysN _ hdt) ⟨_, Heap.get?_push_size _ rfl, rfl, ?_⟩ q)
  rw [hsz] <;> rfl
end
end SN
namespace SN
open PySem PySem.Spec PyProof.Rows PySem.SeqAt L2 DL
section
variable {X : Cx} {o e f i value : Expr} {apos cpos pos pos' : Pos} {td ty tx tv : TE}
def tNNew (P : Program) (w : World) : TE := fun _ H Q => ∀ p, H p = none → Q (.ref p) (upd H p (DBoxO P w p []))
theorem pe_nnew : PE X (.Dict [] [] pos) (tNNew X.prog X.w) := ⟨fun pins s σ H Q I h =>
  wpAny_Dict_empty ⟨.ref s.heap.objs.size, _, I.laid (a := s.heap.objs.size) (t' := s.toks) (fun _ _ q => Heap.get?_push_of_some _ q) (Nat.le_refl _) (dbox_new (DBox.mk' (ts := []) rfl (Heap.DictOfH.new s.heap) (by show 0 ≤ 1000; omega) (beq_eq_false_iff_ne.mpr (Ne.symm (Nat.ne_of_lt I.big))))), rfl, h _ (I.hok.fresh (Nat.le_refl _))⟩⟩
def BoxAt (K : PySem.W.Frag) (P : Program) (w : World) (H : Hp) (a : Addr) (L : LD) : Prop := Rd H a (DBoxO P w a L) ∧ ∀ x ∈ L, KeyOk K H x.1
def tNGet2 (K : PySem.W.Frag) (P : Program) (w : World) (td ty tx : TE) : TE := fun σ H Q => td σ H fun x H1 => ∃ a L1, x = .ref a ∧ Rd H1 a (DBoxO P w a L1) ∧ ty σ H1 fun y H2 => tx σ H2 fun z H3 => ∃ L b d, BoxAt K P w H3 a L ∧ y = .ref b ∧ KeyOk K H3 (b, d) ∧ Q (((lkD L d).map V.int).getD z) H3
theorem pe_nget2 (hu : X.A.units + 70 < cLine) (ho : PE X o td) (he : PE X e ty) (hf : PE X f tx) (m : M2 X o "get" apos e f cpos) : PE X (.Call (.Attribute o "get" apos) [e, f] [] cpos) (tNGet2 X.K X.prog X.w td ty tx) := by
  refine ⟨fun pins s σ H Q I h => ?_⟩
  refine wpAny_Call_method m.base m.few m.line PySem.F.plainAttrs_dict PySem.F.slot_dict_get PySem.F.type_dict_get (thn (ho.run pins s σ H _ I h) fun u s1 ⟨x, H1, I1, rx, a, L1, ex, d1, q1⟩ => ?_)
  subst ex
  obtain rfl : u = Value.ref a := rx
  obtain ⟨ob, es, ep, ts, g1, g2, g3, _⟩ := (rdbox I1 d1).ex
  refine ⟨⟨ob, g1, g2.1⟩, fun b q => by cases q; exact ⟨ob, g1, g2.2.1⟩, ?_⟩
  rw [m.trees]
  refine Calls.callWith_builtin rfl (Calls.evalArgs_plain (Calls.spliced_cons (thn (he.run pins s1 σ H1 _ I1 q1) fun iv s2 ⟨y, H2, I2, ry, q2⟩ =>
    Calls.spliced_cons (thn (hf.run pins s2 σ H2 _ I2 q2) fun fv s3 ⟨z, H3, I3, rz, L, b, d, bx, ey, kd, q3⟩ => Calls.spliced_nil ?_))))
  subst ey
  exact n_get2 (by omega) I3 bx.1 bx.2 ry kd rz fun w' s4 I4 rw' => ⟨_, H3, I4, rw', q3⟩
def tNGet (K : PySem.W.Frag) (P : Program) (w : World) (td ty : TE) : TE := fun σ H Q => td σ H fun x H1 => ty σ H1 fun y H2 => ∃ a L b d j, x = .ref a ∧ BoxAt K P w H2 a L ∧ y = .ref b ∧ KeyOk K H2 (b, d) ∧ lkD L d = some j ∧ Q (.int j) H2
theorem pe_nget (hu : X.A.units + 70 < cLine) (ho : PE X o td) (hi : PE X i ty) (hs : NoSl i) : PE X (.Subscript o i pos) (tNGet X.K X.prog X.w td ty) := by
  refine ⟨fun pins s σ H Q I h => ?_⟩
  refine subD_of PySem.F.slot_dict_getitem.lookup hs (thn (ho.run pins s σ H _ I h) fun u s1 ⟨x, H1, I1, rx, q1⟩ => thn (hi.run pins s1 σ H1 _ I1 q1) fun iv s2 ⟨y, H2, I2, ry, a, L, b, d, j, ex, bx, ey, kd, hl, q2⟩ => ?_)
  subst ex ey
  obtain rfl : u = Value.ref a := rx
  obtain ⟨ob, es, ep, ts, g1, g2, g3, _⟩ := (rdbox I2 bx.1).ex
  exact ⟨⟨ob, g1, g2.1⟩, n_getItem (by omega) I2 bx.1 bx.2 ry kd hl fun w' s3 I3 rw' => ⟨_, H2, I3, rw', q2⟩⟩
def sNPut (K : PySem.W.Frag) (P : Program) (w : World) (td ty tv : TE) : TS := fun D σ H => tv σ H fun v H1 => td σ H1 fun x H2 => ty σ H2 fun y H3 => ∃ a L b d j, x = .ref a ∧ H3 a = some (DBoxO P w a L) ∧ (∀ x ∈ L, KeyOk K H3 x.1) ∧ L.length < 1000 ∧ y = .ref b ∧ KeyOk K H3 (b, d) ∧ v = .int j ∧ D.nx σ (upd H3 a (DBoxO P w a (ptD L b d j)))
theorem ps_nput (hu : X.A.units + 70 < cLine) (ho : PE X o td) (hi : PE X i ty) (hv : PE X value tv) (hs : swapsWith value (some (.Subscript o i pos')) pos.line X.env = pure false) :
    PS X (.Assign [.Subscript o i pos'] value pos) (sNPut X.K X.prog X.w td ty tv) := by
  refine ⟨fun pins s σ H D I h => ?_⟩
  refine wpAny_Assign_Subscript (thn (hv.run pins s σ H _ I h) fun r s1 ⟨v, H1, I1, rv, q1⟩ => thn (ho.run pins s1 σ H1 _ I1 q1) fun u s2 ⟨x, H2, I2, rx, q2⟩ => thn (hi.run pins s2 σ H2 _ I2 q2) fun iv s3 ⟨y, H3, I3, ry, a, L, b, d, j, ex, e3, ks, few, ey, kd, ev, q3⟩ => ?_) hs
  subst ex ey ev
  obtain rfl : u = Value.ref a := rx
  exact n_setItem (by omega) I3 e3 ks few ry kd rv fun s4 I4 => ⟨σ, _, I4, q3⟩
theorem cr_nlen : CallR X (.builtin "len") (fun vs H Q => ∃ a L, vs = [V.ref a] ∧ Rd H a (DBoxO X.prog X.w a L) ∧ Q (.int L.length) H) := by
  intro pins s σ H vs us Q I r h
  obtain ⟨a, L, rfl, e, q⟩ := h
  rw [Vals.ref1 r]
  exact n_len I e fun t s' I' => ⟨V.int L.length, H, I', (show ∃ t', Value.int L.length t = Value.int L.length t' from ⟨t, rfl⟩), q⟩
end
end SN
namespace DL
open PySem PySem.Spec PyProof.Rows L2
section
variable {K : PySem.W.Frag} {Hb : Hp} {ρ : List Addr} {Fr H : Hp} {h : DH}
theorem KvR.look : ∀ {gs : List (Str × V)} {fs : List (Str × DV)}, KvR K Hb ρ (id : Str → Str) gs fs → ∀ {f : Str}, (∀ w, fs.lookup f = some w → ∃ v, gs.lookup f = some v ∧ Rep K Hb ρ v w) ∧ (fs.lookup f = none → gs.lookup f = none)
  | _, _, .nil, f => ⟨fun w e => (by cases e), fun _ => rfl⟩
  | _, _, .cons (k := k) (v := v) (w := w) (l := l) (m := m) r t, f => by
    have ih := KvR.look t (f := f)
    show (∀ u, List.lookup f ((k, w) :: m) = some u → ∃ x, List.lookup f ((k, v) :: l) = some x ∧ Rep K Hb ρ x u) ∧ (List.lookup f ((k, w) :: m) = none → List.lookup f ((k, v) :: l) = none)
    unfold List.lookup
    cases f == k with
    | true => exact ⟨fun u e => by cases e; exact ⟨v, rfl, r⟩, fun e => nomatch e⟩
    | false => exact ih
def putW (f : Str) (w : DV) : List (Str × DV) → List (Str × DV)
  | [] => [(f, w)]
  | (g, x) :: r => if g = f then (g, w) :: r else (g, x) :: putW f w r
theorem KvR.store {f : Str} {v : V} {w : DV} (r : Rep K Hb ρ v w) : ∀ {gs : List (Str × V)} {fs : List (Str × DV)}, KvR K Hb ρ (id : Str → Str) gs fs → KvR K Hb ρ (id : Str → Str) (putF f v gs) (putW f w fs)
  | _, _, .nil => .cons (f := (id : Str → Str)) r .nil
  | _, _, .cons (k := k) r1 t => by
    show KvR K Hb ρ (id : Str → Str) (if k = f then (k, v) :: _ else (k, _) :: putF f v _) (if k = f then (k, w) :: _ else (k, _) :: putW f w _)
    by_cases e : k = f
    · rw [if_pos e, if_pos e]; exact .cons (f := (id : Str → Str)) r t
    · rw [if_neg e, if_neg e]; exact .cons (f := (id : Str → Str)) r1 (KvR.store r t)
theorem KvR.len {κ κ' : Type} {f : κ' → κ} : ∀ {gs : List (κ × V)} {fs : List (κ' × DV)}, KvR K Hb ρ f gs fs → gs.length = fs.length
  | _, _, .nil => rfl
  | _, _, .cons _ t => congrArg (· + 1) t.len
def insAt (c : Str) (h : DH) : DV → Option (List (Str × DV))
  | .ref n => match h[n]? with
    | some (.obj b fs) => if b = c then some fs else none
    | _ => none
  | _ => none
theorem ins_at {c : Str} {C : Addr} {v : V} {w : DV} {fs : List (Str × DV)} (hC : PySem.W.nsIn K mainGlobals c = some (some (.ref C))) (R : Rel K Hb ρ Fr h H) (r : RepT K Hb ρ Fr v w) (e : insAt c h w = some fs) :
    ∃ n a dx gs, w = .ref n ∧ v = .ref a ∧ ρ[n]? = some a ∧ H a = some (.ins C dx gs) ∧ KvR K Hb ρ (id : Str → Str) gs fs := by
  cases w with
  | ref n =>
    cases r with
    | per r =>
      cases r with
      | ref ea =>
        rename_i a
        have e : (match h[n]? with | some (.obj b fs) => if b = c then some fs else none | _ => none) = some fs := e
        cases eh : h[n]? with
        | none => rw [eh] at e; cases e
        | some z =>
          rw [eh] at e
          have y := R.cell n a z ea eh
          cases z with
          | lst _ => cases e
          | own => cases e
          | obj b us =>
            have e : (if b = c then some us else none) = some fs := e
            by_cases hb : b = c
            · rw [if_pos hb] at e
              cases e
              subst hb
              obtain ⟨D, dx, gs, n1, h1, r1⟩ := y
              rw [hC] at n1
              cases n1
              exact ⟨n, a, dx, gs, rfl, rfl, ea, h1, r1⟩
            · rw [if_neg hb] at e; cases e
  | _ => cases e
def fldAt (c f : Str) (h : DH) (w : DV) : Option DV := (insAt c h w).bind fun fs => fs.lookup f
def putAt (c f : Str) (w o : DV) (h : DH) : Option DH := match o with
  | .ref n => (insAt c h o).bind fun fs => if fs.length < 1000 then some (h.set n (.obj c (putW f w fs))) else none
  | _ => none
end
structure ClT (K : PySem.W.Frag) (c : Str) (C : Addr) : Prop where
  ns : PySem.W.nsIn K mainGlobals c = some (some (.ref C))
  cl : Cls K C
def dFld (c f : Str) (d : DE) : DE := fun σ h => (d σ h).bind fun w h1 => ofO (fldAt c f h1 w) h1
def dPutF (c f : Str) (dv dw : DE) : DS := fun σ h => (dv σ h).bind fun w h1 => chk (held w) ((dw σ h1).bind fun o h2 => match putAt c f w o h2 with
  | some h3 => .ok (.next σ) h3
  | none => .bad)
section
variable {X : Cx} {E : L2.St → XK} {e o : Expr} {pos pos' : Pos} {d dv dw : DE} {c f : Str} {C : Addr}
theorem se_fld (hc : ClT X.K c C) (hn : NoAttr X.K C f) (he : SE X E e d) (hb : attributeBase e f X.env (eval e X.env) = eval e X.env := by rfl) : SE X E (.Attribute e f pos) (dFld c f d) := (pe_fld he hb).weak fun s H Q ⟨Hb, ρ, F0, Fr, σ, h, R, x, k⟩ => by
  refine ⟨Hb, ρ, F0, Fr, σ, h, R, x, (Rz.bind k).imp (fun wa h1 k => ?_) fun _ _ z => z⟩
  obtain ⟨w, eg, k⟩ := Rz.ofO k
  intro Hb1 ρ1 H1 v1 s1 p1 R1 r1
  obtain ⟨fs, e1, e2⟩ := Option.bind_eq_some_iff.mp eg
  obtain ⟨n, a, dx, gs, _, rfl, ea, hq, rr⟩ := ins_at hc.ns R1 r1 e1
  obtain ⟨v, hv, rv⟩ := rr.look.1 w e2
  exact ⟨a, C, dx, gs, v, rfl, hq, hc.cl, hn, hv, k Hb1 ρ1 H1 v s1 p1 R1 (.per rv)⟩
theorem ss_putF {E : XK} (hc : ClT X.K c C) (hn : NoAttr X.K C f) (hv : SE X (cE E) e dv) (ho : SE X (cE E) o dw) (hs : swapsWith e (some (.Attribute o f pos')) pos.line X.env = pure false := by rfl) : SS X E (.Assign [.Attribute o f pos'] e pos) (dPutF c f dv dw) := (ps_fld ho hv hs).weak fun D s H k =>
  tS_ex (f := fun w σ h1 => chk (held w) ((dw σ h1).bind fun o h2 => match putAt c f w o h2 with
    | some h3 => .ok (.next σ) h3
    | none => .bad)) k fun w Hb ρ F0 Fr σ h H x R sl r k => by
    obtain ⟨hw, k⟩ := Rz.chk k
    have r := r.held hw
    refine ⟨Hb, ρ, F0, Fr, σ, h, R, sl, (Rz.bind k).imp (fun wo h2 k => ?_) (Pex.lift sl.fr)⟩
    intro Hb1 ρ1 H1 v1 s1 p1 R1 r1
    cases ep : putAt c f w wo h2 with
    | none => rw [ep] at k; exact k.elim
    | some h3 =>
      rw [ep] at k
      unfold putAt at ep
      cases wo with
      | ref n =>
        obtain ⟨fs, e1, e2⟩ := Option.bind_eq_some_iff.mp ep
        by_cases hl : fs.length < 1000
        · rw [if_pos hl] at e2
          cases e2
          obtain ⟨n', a, dx, gs, en, rfl, ea, hq, rr⟩ := ins_at hc.ns R1 r1 e1
          cases en
          refine ⟨a, C, dx, gs, rfl, hq, hc.cl, hn, by rw [rr.len]; exact hl, ?_⟩
          exact k Hb1 ρ1 Fr _ _ s1 p1 (cell_writeC R1 ea ⟨C, dx, _, hc.ns, upd_same, KvR.store (r.mono s1 p1) rr⟩) (sl.mono s1 p1)
        · rw [if_neg hl] at e2; cases e2
      | _ => cases ep
end
def dCellL (da : DA) : DE := fun σ h => (da σ h).bind fun ws h1 => chk (heldAll ws) (chk (le_cap ws.length) (.ok (.ref h1.length) (h1 ++ [.lst ws])))
section
variable {X : Cx} {E : L2.St → XK} {es : List Expr} {pos : Pos} {da : DA}
theorem Pst.cell {K : PySem.W.Frag} {Hb Hb1 : Hp} {ρ ρ1 : List Addr} {Fr : Hp} {Q : VK} {h1 : DH} {H1 : Hp} {ws : List DV} {vs : List V} (R1 : Rel K Hb1 ρ1 Fr h1 H1) (rr : Reps K Hb1 ρ1 vs ws) (s1 : Same Hb Hb1) (p1 : ρ <+: ρ1) (k : Pst K Hb ρ Fr Q (.ref h1.length) (h1 ++ [.lst ws])) (p : Addr) (hp : H1 p = none) : Q (.ref p) (upd H1 p (.lst vs)) := by
  have e : (ρ1 ++ [p])[h1.length]? = some p := by rw [← R1.len, List.getElem?_append_right (Nat.le_refl _), Nat.sub_self]; rfl
  exact k Hb1 (ρ1 ++ [p]) _ _ s1 (p1.trans (List.prefix_append _ _)) (cell_new R1 hp rr) (.per (.ref e))
theorem se_cellL (ha : SA X E es da) : SE X E (.List es pos) (dCellL da) := (pe_lst ha).weak fun s H Q ⟨Hb, ρ, F0, Fr, σ, h, R, x, k⟩ => by
  refine ⟨Hb, ρ, F0, Fr, σ, h, R, x, (Rz.bind k).imp (fun ws h1 k => ?_) fun _ _ z => z⟩
  obtain ⟨hw, k⟩ := Rz.chk k
  obtain ⟨hz, k⟩ := Rz.chk k
  intro Hb1 ρ1 H1 vs s1 p1 R1 r1
  have rr := r1.held hw
  exact ⟨by rw [rr.length]; exact cap_le (of_decide_eq_true hz), fun p hp => Pst.cell R1 rr s1 p1 k p hp⟩
end
def cellAt (h : DH) : DV → Option (List DV)
  | .ref n => match h[n]? with
    | some (.lst ws) => some ws
    | _ => none
  | _ => none
theorem cell_at {K : PySem.W.Frag} {Hb : Hp} {ρ : List Addr} {Fr H : Hp} {h : DH} {v : V} {w : DV} {ws : List DV} (R : Rel K Hb ρ Fr h H) (r : RepT K Hb ρ Fr v w) (e : cellAt h w = some ws) :
    ∃ n a xs, w = .ref n ∧ v = .ref a ∧ ρ[n]? = some a ∧ H a = some (.lst xs) ∧ Reps K Hb ρ xs ws := by
  cases w with
  | ref n =>
    cases r with
    | per r =>
      cases r with
      | ref ea =>
        rename_i a
        have e : (match h[n]? with | some (.lst ws) => some ws | _ => none) = some ws := e
        cases eh : h[n]? with
        | none => rw [eh] at e; cases e
        | some z =>
          rw [eh] at e
          have y := R.cell n a z ea eh
          cases z with
          | own => cases e
          | obj _ _ => cases e
          | lst us =>
            cases e
            obtain ⟨xs, h1, r1⟩ := y
            exact ⟨n, a, xs, rfl, rfl, ea, h1, r1⟩
  | _ => cases e
end DL
namespace DL
open PySem PySem.Spec PyProof.Rows L2
structure MthOk (P : Program) (w : World) (K : PySem.W.Frag) (mg : Str → Option Value) (base : Heap) (C : Addr) (m : Str) (k n : Nat) (F : Fn) : Prop where
  ex : ∃ f fd ps, FnOk P w K mg base (L2.CX P w) k f fd ps (spD K mg n F) ∧ Meth K C m f ∧ L2.Binds K fd ps []
def insNo (c m : Str) (h : DH) (w : DV) : Bool := match insAt c h w with
  | some fs => (fs.lookup m).isNone
  | none => false
def dMth (c m : Str) (n : Nat) (F : Fn) (d : DE) (da : DA) : DE := fun σ h => (d σ h).bind fun o h1 => chk (insNo c m h1 o && held o) ((da σ h1).bind fun ws h2 => chk (ws.length + 1 == n) (F (o :: ws) h2))
section
variable {X : Cx} {E : L2.St → XK} {e o : Expr} {es : List Expr} {pos apos p : Pos} {d : DE} {da : DA} {c m x : Str} {C : Addr} {k j n : Nat} {F : Fn}
theorem insNo_at {K : PySem.W.Frag} {Hb : Hp} {ρ : List Addr} {Fr H : Hp} {h : DH} {v : V} {w : DV} (hC : PySem.W.nsIn K mainGlobals c = some (some (.ref C))) (R : Rel K Hb ρ Fr h H) (r : RepT K Hb ρ Fr v w) (e : insNo c m h w = true) :
    ∃ a dx gs, v = .ref a ∧ H a = some (.ins C dx gs) ∧ gs.lookup m = none := by
  unfold insNo at e
  cases ei : insAt c h w with
  | none => rw [ei] at e; cases e
  | some fs =>
    rw [ei] at e
    obtain ⟨n, a, dx, gs, _, rfl, ea, hq, rr⟩ := ins_at hC R r ei
    exact ⟨a, dx, gs, rfl, hq, rr.look.2 (Option.isNone_iff_eq_none.mp e)⟩
theorem se_mth (hx : ∀ σ, PassesAt (L2.CX X.prog X.w) X σ (E σ)) (hc : ClT X.K c C) (hf : MthOk X.prog X.w X.K X.mg X.base C m k n F) (hr : Room j X.A) (hj : k ≤ j) (he : SE X E o d) (ha : SA X E (e :: es) da)
    (hst : starEach (e :: es) X.env = (false, eval e X.env) :: starEach es X.env := by rfl) (hpl : (backTo pos (starEach es X.env)).any (·.1) = false := by rfl) {pl : Sem Bool}
    (ht : eval (.Call (.Attribute o m apos) (e :: es) [] pos) X.env = (eval o X.env >>= fun ov => standAt apos.atName >>= fun _ => holding [ov] (getMethod ov m pl) >>= fun (f, first) => callWith pos f first (backTo pos (starEach (e :: es) X.env)) (backToKw pos (keywordEach [] X.env))) := by rfl) :
    SE X E (.Call (.Attribute o m apos) (e :: es) [] pos) (dMth c m n F d da) := by
  obtain ⟨f, fd, ps, h1, h2, h3⟩ := hf.ex
  refine ⟨fun pins s σ H Q I hq => ?_⟩
  obtain ⟨Hb, ρ, F0, Fr, dσ, h, R, x, k⟩ := hq
  refine PySem.W.methodCall_KW (pl := pl) (thn (he.run pins s σ H (fun y H1 => ∃ Hb1 ρ1 o1 h1, Same Hb Hb1 ∧ ρ <+: ρ1 ∧ Rel X.K Hb1 ρ1 Fr h1 H1 ∧ RepT X.K Hb1 ρ1 Fr y o1 ∧ Rz (Pst X.K Hb ρ Fr Q) (Pex X.K X.mg Hb ρ Fr (E σ)) (chk (insNo c m h1 o1 && held o1) ((da dσ h1).bind fun ws h2 => chk (ws.length + 1 == n) (F (o1 :: ws) h2)))) I ?_) fun u s1 q => ?_) ht
  · exact ⟨Hb, ρ, F0, Fr, dσ, h, R, x, (Rz.bind k).imp (fun wo h2 k Hb1 ρ1 H1 y s1 p1 R1 r1 => ⟨Hb1, ρ1, wo, h2, s1, p1, R1, r1, k⟩) fun _ _ z => z⟩
  · obtain ⟨y, H1, I1, rv, Hb1, ρ1, o1, hh1, s1', p1, R1, r1, k⟩ := q
    obtain ⟨hi, k⟩ := Rz.chk k
    rw [Bool.and_eq_true] at hi
    have rh := r1.held hi.2
    obtain ⟨a, dx, gs, rfl, hq, hl⟩ := insNo_at hc.ns R1 r1 hi.1
    obtain rfl : u = Value.ref a := rv
    refine getmeth_ok I1 hq hc.cl h2 hl ?_
    refine PySem.W.callWith_K (first := [.ref a]) (h₀ := X.base) I1.ok.mod.kin h2.kp (thn (ha.run pos pins s1 σ H1 (fun vs H2 => ∃ Hb2 ρ2 ws h2, Same Hb Hb2 ∧ ρ <+: ρ2 ∧ Rel X.K Hb2 ρ2 Fr h2 H2 ∧ RepTs X.K Hb2 ρ2 Fr (.ref a :: vs) (o1 :: ws) ∧ Rz (Pst X.K Hb ρ Fr Q) (Pex X.K X.mg Hb ρ Fr (E σ)) (chk (ws.length + 1 == n) (F (o1 :: ws) h2))) I1 ?_) fun us s2 q => ?_) hst hpl
    · refine ⟨Hb1, ρ1, F0, Fr, dσ, hh1, R1, x.mono s1' p1, (Rz.bind k).imp (fun ws h3 k Hb2 ρ2 H2 vs s2 p2 R2 r2 => ?_) (Pex.back s1' p1)⟩
      exact ⟨Hb2, ρ2, ws, h3, s1'.trans s2, p1.trans p2, R2, .cons (.per (rh.mono s2 p2)) r2, k⟩
    · obtain ⟨vs, H2, I2, rv2, Hb2, ρ2, ws, hh2, s2', p2, R2, r2, k⟩ := q
      obtain ⟨hn, k⟩ := Rz.chk k
      refine ⟨I2.kIn, run_fnS (us := .ref a :: us) (vs := .ref a :: vs) h1 (hr.mono hj) h3 (hx σ) I2 (.cons rfl rv2) ⟨r2.length.trans (by simpa using hn), Hb2, ρ2, Fr, hh2, o1 :: ws, R2, r2, ?_⟩⟩
      exact k.imp (fun w h2 q Hb' ρ' H' v s3 p3 R3 r3 => q Hb' ρ' H' v (s2'.trans s3) (p2.trans p3) R3 (.per r3)) (Pex.back s2' p2)
theorem se_mth0 (hx : ∀ σ, PassesAt (L2.CX X.prog X.w) X σ (E σ)) (hc : ClT X.K c C) (hf : MthOk X.prog X.w X.K X.mg X.base C m k n F) (hr : Room j X.A) (hj : k ≤ j) (he : SE X E o d) {pl : Sem Bool}
    (ht : eval (.Call (.Attribute o m apos) [] [] pos) X.env = (eval o X.env >>= fun ov => standAt apos.atName >>= fun _ => holding [ov] (getMethod ov m pl) >>= fun (f, first) => callWith pos f first (backTo pos (starEach [] X.env)) (backToKw pos (keywordEach [] X.env))) := by rfl) :
    SE X E (.Call (.Attribute o m apos) [] [] pos) (dMth c m n F d daNil) := by
  obtain ⟨f, fd, ps, h1, h2, h3⟩ := hf.ex
  refine ⟨fun pins s σ H Q I hq => ?_⟩
  obtain ⟨Hb, ρ, F0, Fr, dσ, h, R, x, k⟩ := hq
  refine PySem.W.methodCall_KW (pl := pl) (thn (he.run pins s σ H (fun y H1 => ∃ Hb1 ρ1 o1 h1, Same Hb Hb1 ∧ ρ <+: ρ1 ∧ Rel X.K Hb1 ρ1 Fr h1 H1 ∧ RepT X.K Hb1 ρ1 Fr y o1 ∧ Rz (Pst X.K Hb ρ Fr Q) (Pex X.K X.mg Hb ρ Fr (E σ)) (chk (insNo c m h1 o1 && held o1) (chk (1 == n) (F [o1] h1)))) I ?_) fun u s1 q => ?_) ht
  · exact ⟨Hb, ρ, F0, Fr, dσ, h, R, x, (Rz.bind k).imp (fun wo h2 k Hb1 ρ1 H1 y s1 p1 R1 r1 => ⟨Hb1, ρ1, wo, h2, s1, p1, R1, r1, k⟩) fun _ _ z => z⟩
  · obtain ⟨y, H1, I1, rv, Hb1, ρ1, o1, hh1, s1', p1, R1, r1, k⟩ := q
    obtain ⟨hi, k⟩ := Rz.chk k
    rw [Bool.and_eq_true] at hi
    obtain ⟨a, dx, gs, rfl, hq, hl⟩ := insNo_at hc.ns R1 r1 hi.1
    obtain rfl : u = Value.ref a := rv
    obtain ⟨hn, k⟩ := Rz.chk k
    refine getmeth_ok I1 hq hc.cl h2 hl ?_
    refine PySem.W.callWith_K0 (first := [.ref a]) I1.kIn h2.kp (run_fnS (us := [.ref a]) (vs := [.ref a]) h1 (hr.mono hj) h3 (hx σ) I1 (.cons rfl .nil) ⟨by simpa using hn, Hb1, ρ1, Fr, hh1, [o1], R1, .cons r1 .nil, ?_⟩)
    exact k.imp (fun w h2 q Hb' ρ' H' v s3 p3 R3 r3 => q Hb' ρ' H' v (s1'.trans s3) (p1.trans p3) R3 (.per r3)) (Pex.back s1' p1)
structure MkOk (P : Program) (w : World) (K : PySem.W.Frag) (mg : Str → Option Value) (base : Heap) (C : Addr) (k n : Nat) (F : Fn) : Prop where
  ex : ∃ f fd ps, FnOk P w K mg base (L2.CX P w) k f fd ps (spD K mg n F) ∧ Mk K C f ∧ L2.Binds K fd ps []
def dMake (c : Str) (n : Nat) (F : Fn) (da : DA) : DE := fun σ h => (da σ h).bind fun ws h1 => chk (ws.length + 1 == n) ((F (.ref (h1.length + 1) :: ws) (h1 ++ [.own] ++ [.obj c []])).bind fun v h2 => chk (isNon v) (.ok (.ref (h1.length + 1)) h2))
theorem se_make (hx : ∀ σ, PassesAt (L2.CX X.prog X.w) X σ (E σ)) (hc : ClT X.K x C) (hf : MkOk X.prog X.w X.K X.mg X.base C k n F) (hr : Room j X.A) (hj : k + 1 ≤ j) (hg : Gl X x) (hm : X.mg x = some (.ref C)) (ha : SA X E (e :: es) da) (hdb : (x == ("__debug__" : Str)) = false := by decide)
    (hst : starEach (e :: es) X.env = (false, eval e X.env) :: starEach es X.env := by rfl) (hpl : (backTo pos (starEach es X.env)).any (·.1) = false := by rfl) :
    SE X E (.Call (.Name x p) (e :: es) [] pos) (dMake x n F da) := by
  obtain ⟨f, fd, ps, h1, h2, h3⟩ := hf.ex
  have hr' := hr.mono hj
  refine ⟨fun pins s σ H Q I hq => ?_⟩
  obtain ⟨Hb, ρ, F0, Fr, dσ, h, R, x', k⟩ := hq
  refine wpAny_Call_Name_kw (ld_glob I hg hm ?_ hdb)
  refine PySem.W.callWith_K (h₀ := X.base) I.ok.mod.kin h2.kp (thn (ha.run pos pins s σ H (fun vs H2 => ∃ Hb2 ρ2 ws h2, Same Hb Hb2 ∧ ρ <+: ρ2 ∧ Rel X.K Hb2 ρ2 Fr h2 H2 ∧ RepTs X.K Hb2 ρ2 Fr vs ws ∧ Rz (Pst X.K Hb ρ Fr Q) (Pex X.K X.mg Hb ρ Fr (E σ)) (chk (ws.length + 1 == n) ((F (.ref (h2.length + 1) :: ws) (h2 ++ [.own] ++ [.obj x []])).bind fun v h3 => chk (isNon v) (.ok (.ref (h2.length + 1)) h3)))) I ?_) fun us s2 q => ?_) hst hpl
  · refine ⟨Hb, ρ, F0, Fr, dσ, h, R, x', (Rz.bind k).imp (fun ws h3 k Hb2 ρ2 H2 vs s2 p2 R2 r2 => ?_) fun _ _ z => z⟩
    exact ⟨Hb2, ρ2, ws, h3, s2, p2, R2, r2, k⟩
  · obtain ⟨vs, H2, I2, rv2, Hb2, ρ2, ws, hh2, s2', p2, R2, r2, k⟩ := q
    obtain ⟨hn, k⟩ := Rz.chk k
    refine ⟨I2.kIn, ?_⟩
    -- the new instance
    have key : ∀ y dx, H2 y = none → H2 dx = none → dx ≠ y → spD X.K X.mg n F (.ref y :: vs) (upd (upd H2 dx (.own y)) y (.ins C dx [])) (fun v H3 => v = .non ∧ Q (.ref y) H3) (E σ) := by
      intro y dx ny ndx ne
      have ny' : upd H2 dx (.own y) y = none := by rw [upd_ne ne.symm]; exact ny
      have R3 := cell_newC (c0 := .own) R2 ndx (o := .own y) ⟨y, upd_same⟩
      have R4 := cell_newC (c0 := .obj x []) R3 ny' (o := .ins C dx []) ⟨C, dx, [], hc.ns, upd_same, .nil⟩
      have pre : ρ2 <+: ρ2 ++ [dx] ++ [y] := by rw [List.append_assoc]; exact List.prefix_append _ _
      have ey : (ρ2 ++ [dx] ++ [y])[hh2.length + 1]? = some y := by
        rw [List.getElem?_append_right (by rw [List.length_append, R2.len]; exact Nat.le_refl _), List.length_append, R2.len]
        simp
      refine ⟨by rw [List.length_cons, r2.length]; simpa using hn, Hb2, ρ2 ++ [dx] ++ [y], Fr, _, _, R4, .cons (.per (.ref ey)) (RepTs.mono (Same.refl _) pre (Same.refl _) r2), (Rz.bind k).imp (fun w h3 k => ?_) fun c h3 z => Pex.back s2' (p2.trans pre) c h3 z⟩
      obtain ⟨hw, k⟩ := Rz.chk k
      rw [isNon_eq hw]
      intro Hb' ρ' H' v s3 p3 R5 rv
      cases rv
      exact ⟨rfl, k Hb' ρ' H' (.ref y) (s2'.trans s3) ((p2.trans pre).trans p3) R5 (.per (.ref (pre_get p3 ey)))⟩
    -- run
    have I2m := Inv.made (C := C) I2
    have hq := key (s2.heap.objs.size + 1) s2.heap.objs.size (I2.hok.fresh (Nat.le_succ _)) (I2.hok.fresh (Nat.le_refl _)) (Nat.ne_of_lt (Nat.lt_succ_self _))
    have rr : Vals (V.ref (s2.heap.objs.size + 1) :: vs) (Value.ref (s2.heap.objs.size + 1) :: us) := .cons rfl rv2
    have hl : (Value.ref (s2.heap.objs.size + 1) :: us ++ []).length = ps.length := by
      rw [List.append_nil, ← rr.length]
      exact h1.len _ _ _ _ hq
    have hl' := hl
    rw [List.append_nil] at hl'
    refine wpAny_call (make_map (f := f) I2.kIn h2.makes h2.init (beq_iff_eq.mp h2.fn) (codeAny_mono (h1.run _ X.stack _ _ ⟨Value.ref (s2.heap.objs.size + 1) :: us, []⟩ (Value.ref (s2.heap.objs.size + 1) :: us) _ _ (E σ) (hr'.make C us []) (I2m.env0.make C us []) (by
      have := h3 _ (Value.ref (s2.heap.objs.size + 1) :: us) I2m.kIn hl
      rwa [List.append_nil] at this) rr hq) fun r s' hq' => ?_))
    cases r with
    | error er => exact hx σ pins _ _ er s' I2m hq'
    | ok fl =>
      cases fl with
      | ret u =>
        obtain ⟨v, H', I3, rv, ev, q3⟩ := I2m.after hq'
        subst ev
        exact ⟨rv, ⟨V.ref (s2.heap.objs.size + 1), H', I3, rfl, q3⟩⟩
      | next => exact False.elim hq'
      | brk => exact False.elim hq'
      | cont => exact False.elim hq'
end
end DL
namespace DL
open PySem PySem.Spec PyProof.Rows L2
def mutC (g : List DV → Option (List DV)) (o : DV) (h : DH) : Option DH := match o with
  | .ref n => (cellAt h o).bind fun ws => (g ws).map fun zs => h.set n (.lst zs)
  | _ => none
def nextO (σ : DSt) : Option DH → Res Fl
  | some h => .ok (.next σ) h
  | none => .bad
def dMutC (g : DV → List DV → Option (List DV)) (d : DE) (da : DA) : DS := fun σ h => (d σ h).bind fun o h1 => chk (cellAt h1 o).isSome ((da σ h1).bind fun ws h2 => (ofO (one1 ws) h2).bind fun w h3 => nextO σ (mutC (g w) o h3))
def popL : List DV → Option (List DV)
  | [] => none
  | w :: ws => some (w :: ws).dropLast
def dPopC (d : DE) : DS := fun σ h => (d σ h).bind fun o h1 => nextO σ (mutC popL o h1)
theorem Rz.nextO {ok : Fl → DH → Prop} {ex : Str → DH → Prop} {σ : DSt} {o : Option DH} (k : Rz ok ex (nextO σ o)) : ∃ h, o = some h ∧ ok (.next σ) h := by
  cases o with
  | none => exact k.elim
  | some h => exact ⟨h, rfl, k⟩
section
variable {X : Cx} {E : XK} {st : Stmt} {d : DE} {da : DA}
theorem ss_mutC {r : V → List V → Hp → VK → Prop} {g : DV → List DV → Option (List DV)} (hd : MutD X r g) (h : PS X st (tDrop (tBM X.K "list" r (tD X.K X.mg (cE E) d) (tDs X.K X.mg (cE E) da)))) : SS X E st (dMutC g d da) := h.weak fun D s H ⟨Hb, ρ, F0, Fr, σ, h, R, x, k⟩ => by
  refine ⟨Hb, ρ, F0, Fr, σ, h, R, x, (Rz.bind k).imp (fun wo h1 k => ?_) (Pex.lift x.fr)⟩
  obtain ⟨hi, k⟩ := Rz.chk k
  intro Hb1 ρ1 H1 v1 s1 p1 R1 r1
  obtain ⟨us, eu⟩ := Option.isSome_iff_exists.mp hi
  obtain ⟨n, a, xs, rfl, rfl, ea, hq, rr⟩ := cell_at R1 r1 eu
  refine ⟨Or.inl ⟨rfl, _, SqL.of hq⟩, Hb1, ρ1, F0, Fr, σ, h1, R1, x.mono s1 p1, (Rz.bind k).imp (fun ws h2 k => ?_) fun c h2 z => Pex.lift x.fr c h2 (Pex.back s1 p1 c h2 z)⟩
  obtain ⟨w, ew, k⟩ := Rz.ofO (Rz.bind k)
  obtain ⟨h4, e4, k⟩ := Rz.nextO k
  intro Hb2 ρ2 H2 vs s2 p2 R2 r2
  obtain ⟨y, rfl, ry⟩ : ∃ y, vs = [y] ∧ RepT X.K Hb2 ρ2 Fr y w := by
    cases r2 with
    | nil => cases ew
    | cons ra rb =>
      cases rb with
      | nil => cases ew; exact ⟨_, rfl, ra⟩
      | cons _ _ => cases ew
  obtain ⟨us2, e5, e6⟩ := Option.bind_eq_some_iff.mp e4
  obtain ⟨zs, e7, e8⟩ := Option.map_eq_some_iff.mp e6
  subst e8
  obtain ⟨n', a', xs2, en, ea', ea2, hq2, rr2⟩ := cell_at R2 (.per (.ref (pre_get p2 ea))) e5
  cases en
  cases ea'
  exact hd Hb2 ρ2 Fr h2 H2 a xs2 us2 zs y w _ R2 hq2 rr2 ry e7 fun ys rys => k Hb2 ρ2 Fr _ s (s1.trans s2) (p1.trans p2) (cell_write R2 ea2 rys) (x.mono (s1.trans s2) (p1.trans p2))
theorem ss_popC (h : PS X st (tDrop (tBM0 X.K "list" rPop (tD X.K X.mg (cE E) d)))) : SS X E st (dPopC d) := h.weak fun D s H ⟨Hb, ρ, F0, Fr, σ, h, R, x, k⟩ => by
  refine ⟨Hb, ρ, F0, Fr, σ, h, R, x, (Rz.bind k).imp (fun wo h1 k => ?_) (Pex.lift x.fr)⟩
  obtain ⟨h4, e4, k⟩ := Rz.nextO k
  intro Hb1 ρ1 H1 v1 s1 p1 R1 r1
  unfold mutC at e4
  cases wo with
  | ref m =>
    obtain ⟨us, eu, e6⟩ := Option.bind_eq_some_iff.mp e4
    obtain ⟨zs, e7, e8⟩ := Option.map_eq_some_iff.mp e6
    subst e8
    obtain ⟨n, a, xs, en, rfl, ea, hq, rr⟩ := cell_at R1 r1 eu
    cases en
    cases us with
    | nil => cases e7
    | cons w0 wt =>
      cases e7
      obtain ⟨y, hy⟩ : ∃ y, xs[xs.length - 1]? = some y := by
        have hl := rr.length
        rw [List.length_cons] at hl
        exact ⟨_, List.getElem?_eq_getElem (show xs.length - 1 < xs.length by omega)⟩
      have rd : Reps X.K Hb1 ρ1 xs.dropLast (w0 :: wt).dropLast := by
        rw [List.dropLast_eq_take, List.dropLast_eq_take, rr.length]
        exact rr.take _
      exact ⟨Or.inl ⟨rfl, _, SqL.of hq⟩, a, xs, y, rfl, rfl, hq, hy, k Hb1 ρ1 Fr _ s s1 p1 (cell_write R1 ea rd) (x.mono s1 p1)⟩
  | _ => cases e4
end
def OpDH (X : Cx) (r : R2) (g : DH → DV → DV → Option DV) : Prop := ∀ (Hb : Hp) (ρ : List Addr) (Fr : Hp) (h : DH) (H : Hp) (x y : V) (a b w : DV) (Q : VK), Rel X.K Hb ρ Fr h H → RepT X.K Hb ρ Fr x a → RepT X.K Hb ρ Fr y b → g h a b = some w → Pst X.K Hb ρ Fr Q w h → r x y H Q
def dOpH (g : DH → DV → DV → Option DV) (da db : DE) : DE := fun σ h => (da σ h).bind fun a h1 => (db σ h1).bind fun b h2 => ofO (g h2 a b) h2
section
variable {X : Cx} {E : L2.St → XK} {a b : Expr} {pos : Pos} {da db : DE} {g : DH → DV → DV → Option DV}
theorem doph_run {r : R2} (hd : OpDH X r g) {s : L2.St} {H : Hp} {Q : VK} (h : tD X.K X.mg E (dOpH g da db) s H Q) : tOp r (tD X.K X.mg E da) (tD X.K X.mg E db) s H Q := by
  obtain ⟨Hb, ρ, F0, Fr, σ, h, R, x, k⟩ := h
  refine ⟨Hb, ρ, F0, Fr, σ, h, R, x, (Rz.bind k).imp (fun wa h1 k => ?_) fun _ _ z => z⟩
  intro Hb1 ρ1 H1 v1 s1 p1 R1 r1
  refine ⟨Hb1, ρ1, F0, Fr, σ, h1, R1, x.mono s1 p1, (Rz.bind k).imp (fun wb h2 k => ?_) (Pex.back s1 p1)⟩
  obtain ⟨w, eg, k⟩ := Rz.ofO k
  intro Hb2 ρ2 H2 v2 s2 p2 R2 r2
  exact hd Hb2 ρ2 Fr h2 H2 v1 v2 wa wb w Q R2 (r1.mono s2 p2 (Same.refl _)) r2 eg (Pst.back (s1.trans s2) (p1.trans p2) _ _ k)
def gIxC (h : DH) (a b : DV) : Option DV := match b with
  | .int i => (cellAt h a).bind fun ws => atI ws i
  | _ => none
theorem se_itemC (ha : SE X E a da) (hb : SE X E b db) (hs : PlainIx b) : SE X E (.Subscript a b pos) (dOpH gIxC da db) :=
  (pe_ix (ix_list) ha hb hs).weak fun s H Q h => doph_run (fun Hb ρ Fr h H x y a b w Q R rx ry e k => by
    unfold gIxC at e
    split at e
    · rename_i i
      obtain ⟨ws, e1, e2⟩ := Option.bind_eq_some_iff.mp e
      obtain ⟨n, p, xs, rfl, rfl, ea, hq, rr⟩ := cell_at R rx e1
      obtain ⟨v, ev, rv⟩ := atI_rep rr e2
      exact ⟨p, xs, i, v, rfl, by rw [int_of ry], SqL.of hq, ev, Pst.same R k (.per rv)⟩
    · cases e) h
end
def gListC : List DV → DH → Option DV := g1 fun w h => (cellAt h w).map .lst
theorem se_listC {X : Cx} {E : L2.St → XK} {e : Expr} {pos p : Pos} {da : DA} (hg : Gl X "list") (hm : X.mg "list" = none) (ha : SA X E [e] da)
    (hs : starEach [e] X.env = (false, eval e X.env) :: starEach [] X.env := by rfl) : SE X E (.Call (.Name "list" p) [e] [] pos) (dFn gListC da) :=
  se_callTy call_list_of (cd1 fun Hb ρ Fr h H x a w Q R r1 e k => by
    obtain ⟨us, e1, e2⟩ := Option.map_eq_some_iff.mp e
    subst e2
    obtain ⟨n, p, xs, rfl, rfl, ea, hq, rr⟩ := cell_at R r1 e1
    exact ⟨p, xs, rfl, .inl (SqL.of hq), fun c hp => Pst.lst R k rr c hp⟩) hg hm (by decide +kernel) ha (by decide) (by decide) hs rfl
def seqC (h : DH) (w : DV) : Option (List DV) := match cellAt h w with
  | some ws => some ws
  | none => seqOf w
def dCellOf (da : DA) : DE := fun σ h => (da σ h).bind fun ws h1 => (ofO (one1 ws) h1).bind fun w h2 => (ofO (seqC h2 w) h2).bind fun us h3 => .ok (.ref h3.length) (h3 ++ [.lst us])
theorem se_cellOf {X : Cx} {E : L2.St → XK} {e : Expr} {pos p : Pos} {da : DA} (hg : Gl X "list") (hm : X.mg "list" = none) (ha : SA X E [e] da)
    (hs : starEach [e] X.env = (false, eval e X.env) :: starEach [] X.env := by rfl) : SE X E (.Call (.Name "list" p) [e] [] pos) (dCellOf da) :=
  (pe_callTy call_list_of hg hm (by decide +kernel) ha (by decide) (by decide) hs rfl).weak fun s H Q ⟨Hb, ρ, F0, Fr, σ, h, R, x, k⟩ => by
  refine ⟨Hb, ρ, F0, Fr, σ, h, R, x, (Rz.bind k).imp (fun ws h1 k => ?_) fun _ _ z => z⟩
  obtain ⟨w, ew, k⟩ := Rz.ofO (Rz.bind k)
  obtain ⟨us, eu, kk⟩ := Rz.ofO (Rz.bind k)
  clear k
  intro Hb1 ρ1 H1 vs s1 p1 R1 r1
  obtain ⟨y, rfl, ry⟩ : ∃ y, vs = [y] ∧ RepT X.K Hb1 ρ1 Fr y w := by
    cases r1 with
    | nil => cases ew
    | cons ra rb =>
      cases rb with
      | nil => cases ew; exact ⟨_, rfl, ra⟩
      | cons _ _ => cases ew
  unfold seqC at eu
  cases ec : cellAt h1 w with
  | some zs =>
    rw [ec] at eu
    cases eu
    obtain ⟨n, p, xs, rfl, rfl, ea, hq, rr⟩ := cell_at R1 ry ec
    exact ⟨p, xs, rfl, .inl (SqL.of hq), fun c hp => Pst.cell R1 rr s1 p1 kk c hp⟩
  | none =>
    rw [ec] at eu
    obtain ⟨p, ys, ex, hq, rr⟩ := seq_of R1 ry eu
    exact ⟨p, ys, by rw [ex], hq, fun c hp => Pst.cell R1 rr s1 p1 kk c hp⟩
end DL
namespace DL
open PySem PySem.Spec PyProof.Rows L2
structure ClU (K : PySem.W.Frag) (c : Str) (C : Addr) : Prop extends ClT K c C where
  ty : PySem.W.typeIn K (.ref C) = some (.type "type")
  ha : PySem.W.findIn K (.ref C) "__class__" = some (some (.builtin "object.__class__"))
  hn : PySem.W.specialIn K (.builtin "object.__class__") "__get__" = some (some (.builtin "getset_descriptor.__get__"))
  htk : PySem.W.takesIn K (.builtin "object.__class__") = some true
  hm : PySem.W.mroIn K C (.type "object") = some true
  me : PySem.W.subIn K (.ref C) (.ref C) = some true
  nT : PySem.W.subIn K (.type "tuple") (.ref C) = some false
  nN : PySem.W.subIn K (.type "NoneType") (.ref C) = some false
section
variable {X : Cx} {pins : List (Addr × Obj)} {σ : L2.St} {H : Hp} {s : Shared} {k n : Nat} {f : Addr} {fd : FuncData} {ps : List Str} {F : Fn}
theorem run_special (G : FnOk X.prog X.w X.K X.mg X.base (L2.CX X.prog X.w) k f fd ps (spD X.K X.mg n F)) (hb : L2.Binds X.K fd ps []) {A : Around} (room : Room k A) (fr : A.frames = X.A.frames) (I : Inv X pins σ H s)
    {us : List Value} {vs : List V} (r : Vals vs us) {Hb : Hp} {ρ : List Addr} {Fr : Hp} {h h' : DH} {ws : List DV} {w : DV} (R : Rel X.K Hb ρ Fr h H) (rr : RepTs X.K Hb ρ Fr vs ws) (hn : vs.length = n) (e : F ws h = .ok w h') {Q : VK} (q : Prt X.K Hb ρ Fr Q w h') :
    wpAny (model X.prog X.w) A (call (.ref f) us) (EP X pins σ Q) X.xe s := by
  have hsp : spD X.K X.mg n F vs H Q L2.E0 := ⟨hn, Hb, ρ, Fr, h, ws, R, rr, by rw [e]; exact q⟩
  have e0 : Env0 X.prog X.w X.K X.mg X.base A X.stack s H := by
    have e := I.env0
    exact ⟨by rw [fr]; exact e.frames, e.mod, e.bs, e.bsz, e.funs, e.frf, e.hok, e.bare⟩
  have hl := G.len _ _ _ _ hsp
  refine wpAny_call (codeAny_mono (G.run A X.stack s H ⟨us, []⟩ us vs Q _ room e0 (by
    have := hb s us I.kIn (by rw [List.append_nil, ← r.length]; exact hl)
    rwa [List.append_nil] at this) r hsp) fun res s' hq => ?_)
  cases res with
  | error er => exact lets0 σ pins H s er s' I hq
  | ok fl =>
    cases fl with
    | ret w => exact I.after hq
    | next => exact False.elim hq
    | brk => exact False.elim hq
    | cont => exact False.elim hq
end
def isIns (c : Str) (h : DH) (o : DV) : Bool := (insAt c h o).isSome
def lenOf : Res DV → Res DV
  | .ok (.int i) h => if 0 ≤ i ∧ i ≤ 1000 then .ok (.int i) h else .bad
  | _ => .bad
def dLenO (c : Str) (F : Fn) (d : DE) : DE := fun σ h => (d σ h).bind fun o h1 => chk (isIns c h1 o) (lenOf (F [o] h1))
def strOf : Res DV → Res DV
  | .ok (.str z) h => .ok (.str z) h
  | _ => .bad
def dStrO (c : Str) (F : Fn) (d : DE) : DE := fun σ h => (d σ h).bind fun o h1 => chk (isIns c h1 o) (strOf (F [o] h1))
theorem lenOf_ok {r : Res DV} {ok : DV → DH → Prop} {ex : Str → DH → Prop} (k : Rz ok ex (lenOf r)) : ∃ i h, r = .ok (.int i) h ∧ 0 ≤ i ∧ i ≤ 1000 ∧ ok (.int i) h := by
  cases r with
  | ok w h =>
    cases w with
    | int i =>
      have k : Rz ok ex (if 0 ≤ i ∧ i ≤ 1000 then .ok (.int i) h else .bad) := k
      by_cases c : 0 ≤ i ∧ i ≤ 1000
      · rw [if_pos c] at k; exact ⟨i, h, rfl, c.1, c.2, k⟩
      · rw [if_neg c] at k; exact k.elim
    | _ => exact k.elim
  | exc c h => exact k.elim
  | bad => exact k.elim
theorem strOf_ok {r : Res DV} {ok : DV → DH → Prop} {ex : Str → DH → Prop} (k : Rz ok ex (strOf r)) : ∃ z h, r = .ok (.str z) h ∧ ok (.str z) h := by
  cases r with
  | ok w h =>
    cases w with
    | str z => exact ⟨z, h, rfl, k⟩
    | _ => exact k.elim
  | exc c h => exact k.elim
  | bad => exact k.elim
section
variable {X : Cx} {E : L2.St → XK} {e : Expr} {pos p : Pos} {da : DA} {d : DE} {c : Str} {C : Addr} {k j n : Nat} {F : Fn}
def rSp (K : PySem.W.Frag) (c : Str) (F : Fn) (back : Res DV → Res DV) : List V → Hp → VK → Prop := fun xs H Q => ∃ (x : V) (Hb : Hp) (ρ : List Addr) (Fr : Hp) (h : DH) (o : DV), xs = [x] ∧ Rel K Hb ρ Fr h H ∧ RepT K Hb ρ Fr x o ∧ isIns c h o = true ∧ Rz (Pst K Hb ρ Fr Q) (fun _ _ => False) (back (F [o] h))
theorem prt_of {K : PySem.W.Frag} {Hb : Hp} {ρ : List Addr} {Fr : Hp} {Q Q' : VK} {w : DV} {h' : DH} (k : Pst K Hb ρ Fr Q w h') (f : ∀ x H, Q x H → Rep K Hb ρ x w → Q' x H) (g : ∀ {Hb' ρ'} {x : V}, Rep K Hb' ρ' x w → Rep K Hb ρ x w) : Prt K Hb ρ Fr Q' w h' :=
  fun Hb' ρ' H' x s p R r => f x H' (k Hb' ρ' H' x s p R (.per r)) (g r)
theorem call_lenO (hc : ClT X.K c C) (hf : MthOk X.prog X.w X.K X.mg X.base C "__len__" k 1 F) (hr : Room j X.A) (hj : k + 1 ≤ j) : CallR X (.builtin "len") (rSp X.K c F lenOf) := by
  intro pins s σ H xs us Q I r h
  obtain ⟨x, Hb, ρ, Fr, hh, o, rfl, R, r1, hi, kk⟩ := h
  obtain ⟨f, fd, ps, h1, h2, h3⟩ := hf.ex
  obtain ⟨u, rfl, rx⟩ := vals1 r
  obtain ⟨fs, ei⟩ := Option.isSome_iff_exists.mp hi
  obtain ⟨m, a, dx, gs, rfl, rfl, ea, hq, rr⟩ := ins_at hc.ns R r1 ei
  cases rx
  obtain ⟨i, h', e, i0, i1, q⟩ := lenOf_ok kk
  obtain ⟨mA, J, _⟩ := ins_get I.hok hq
  obtain ⟨od, J, _⟩ := J.look
  obtain ⟨mm, hF⟩ := I.fr
  refine PySem.W.len_K hF I.ok.mod.kin J h2.at_ h2.fn (wpAny_mono (run_special (Q := fun v H' => v = .int i ∧ Q (.int i) H') h1 h3 ((hr.mono hj).in1) rfl I (us := [.ref a]) (vs := [.ref a]) (.cons rfl .nil) R (.cons r1 .nil) rfl e fun Hb' ρ' H' y s1 p1 R' ry => ?_) (fun v s' z => ?_) fun _ _ z => z)
  · have : y = .int i := by cases ry; rfl
    subst this
    exact ⟨rfl, q Hb' ρ' H' _ s1 p1 R' (.per ry)⟩
  · obtain ⟨y, H', I', ry, ey, q'⟩ := z
    subst ey
    obtain ⟨t, rfl⟩ := (show ∃ t, v = Value.int i t from ry)
    exact ⟨⟨i0, Int.lt_of_le_of_lt i1 (by decide)⟩, .int i, H', I'.tok _, ⟨_, rfl⟩, q'⟩
theorem call_strO (hc : ClT X.K c C) (hf : MthOk X.prog X.w X.K X.mg X.base C "__str__" k 1 F) (hr : Room j X.A) (hj : k + 2 ≤ j) : CallR X (.type "str") (rSp X.K c F strOf) := by
  intro pins s σ H xs us Q I r h
  obtain ⟨x, Hb, ρ, Fr, hh, o, rfl, R, r1, hi, kk⟩ := h
  obtain ⟨f, fd, ps, h1, h2, h3⟩ := hf.ex
  obtain ⟨u, rfl, rx⟩ := vals1 r
  obtain ⟨fs, ei⟩ := Option.isSome_iff_exists.mp hi
  obtain ⟨m, a, dx, gs, rfl, rfl, ea, hq, rr⟩ := ins_at hc.ns R r1 ei
  cases rx
  obtain ⟨z, h', e, q⟩ := strOf_ok kk
  obtain ⟨mA, J, _⟩ := ins_get I.hok hq
  obtain ⟨od, J, _⟩ := J.look
  have hr2 : Room k X.A.in1.in1 := ((hr.mono hj : Room (k + 1 + 1) X.A).in1).in1
  refine PySem.W.kso_call hr2.units0 I.kIn J h2.at_ h2.fn (wpAny_mono (run_special (Q := fun v H' => v = .str z ∧ Q (.str z) H') h1 h3 hr2 rfl I (us := [.ref a]) (vs := [.ref a]) (.cons rfl .nil) R (.cons r1 .nil) rfl e fun Hb' ρ' H' y s1 p1 R' ry => ?_) (fun v s' z' => ?_) fun _ _ z => z)
  · have : y = .str z := by cases ry; rfl
    subst this
    exact ⟨rfl, q Hb' ρ' H' _ s1 p1 R' (.per ry)⟩
  · obtain ⟨y, H', I', ry, ey, q'⟩ := z'
    subst ey
    obtain ⟨t, rfl⟩ := (show ∃ t, v = Value.str z t from ry)
    exact ⟨.str z, H', I', ⟨_, rfl⟩, q'⟩
theorem dsp_run {back : Res DV → Res DV} {s : L2.St} {H : Hp} {Q : VK} (hb : ∀ r ok ex, Rz ok ex (back r) → Rz ok (fun _ _ => False) (back r)) (h : tD X.K X.mg E (fun σ h => (d σ h).bind fun o h1 => chk (isIns c h1 o) (back (F [o] h1))) s H Q) : tCB (rSp X.K c F back) (tDs X.K X.mg E (daCons d daNil)) s H Q := by
  obtain ⟨Hb, ρ, F0, Fr, σ, h, R, x, k⟩ := h
  refine ⟨Hb, ρ, F0, Fr, σ, h, R, x, ?_⟩
  have k : Rz (Pst X.K Hb ρ Fr Q) (Pex X.K X.mg Hb ρ Fr (E s)) ((d σ h).bind fun o h1 => chk (isIns c h1 o) (back (F [o] h1))) := k
  unfold daCons daNil
  cases eo : d σ h with
  | bad => rw [eo] at k; exact k.elim
  | exc c h1 => rw [eo] at k; exact k
  | ok o h1 =>
    rw [eo] at k
    obtain ⟨hi, k⟩ := Rz.chk (show Rz _ _ (chk (isIns c h1 o) (back (F [o] h1))) from k)
    intro Hb1 ρ1 H1 vs s1 p1 R1 r1
    cases r1 with
    | cons r r' =>
      cases r'
      exact ⟨_, Hb1, ρ1, Fr, h1, o, rfl, R1, r, hi, (hb _ _ _ k).imp (Pst.back s1 p1) fun _ _ z => z⟩
theorem se_lenO (hc : ClT X.K c C) (hf : MthOk X.prog X.w X.K X.mg X.base C "__len__" k 1 F) (hr : Room j X.A) (hj : k + 1 ≤ j) (hg : Gl X "len") (hm : X.mg "len" = none) (he : SE X E e d) (hs : starEach [e] X.env = (false, eval e X.env) :: starEach [] X.env := by rfl) :
    SE X E (.Call (.Name "len" p) [e] [] pos) (dLenO c F d) :=
  (pe_callB (call_lenO hc hf hr hj) hg hm PySem.boot_len (sa_cons he sa_nil hs) (by decide) (by decide) hs rfl).weak fun s H Q h => dsp_run (fun r ok ex z => by obtain ⟨i, h, rfl, i0, i1, q⟩ := lenOf_ok z; exact (show Rz _ _ (if 0 ≤ i ∧ i ≤ 1000 then Res.ok (DV.int i) h else .bad) by rw [if_pos ⟨i0, i1⟩]; exact q)) h
theorem se_strO (hc : ClT X.K c C) (hf : MthOk X.prog X.w X.K X.mg X.base C "__str__" k 1 F) (hr : Room j X.A) (hj : k + 2 ≤ j) (hg : Gl X "str") (hm : X.mg "str" = none) (he : SE X E e d) (hs : starEach [e] X.env = (false, eval e X.env) :: starEach [] X.env := by rfl) :
    SE X E (.Call (.Name "str" p) [e] [] pos) (dStrO c F d) :=
  (pe_callTy (call_strO hc hf hr hj) hg hm (by decide +kernel) (sa_cons he sa_nil hs) (by decide) (by decide) hs rfl).weak fun s H Q h => dsp_run (fun r ok ex z => by obtain ⟨i, h, rfl, q⟩ := strOf_ok z; exact q) h
end
end DL
namespace DL
open PySem PySem.Spec PyProof.Rows L2
section
variable {prog : Program} {w : World} {A : Around} {E : Value → Shared → Prop} {s : Shared} {K : PySem.W.Frag} {x C f L : Addr} {h₀ : Heap} {m : Str → Option Value} {ox : Obj} {od : Option Obj} {b tb : Value}
theorem objNe_bind (self : Value) : bindSpecial (.builtin "object.__ne__") self = pure (.builtin "object.__ne__", [self]) :=
  (Slot.of (T := "object") (name := "__ne__") (owner := "object") (n := "__ne__") (by rw [typeLookup_type, builtinLookup_eq_fast]; kernel_rfl) (by decide +kernel) (by decide +kernel) (by decide +kernel) (.inl (by decide +kernel)) (by rw [isSubtype_type]; kernel_rfl)).bind self
theorem objNe_plain : plainId "object.__ne__" = true := by decide +kernel
def BoolVal (Q : Value → Shared → Prop) (v : Value) (s' : Shared) : Prop := ∃ k : Bool, v = .bool k ∧ Q (.bool (!k)) s'
theorem ne_run {Q : Value → Shared → Prop} (hu : A.units + 1 < cLine) (X : K.In s.heap) (I : PySem.W.InstAt s.heap x ox C od) (hm : PySem.W.mroIn K C (.type "object") = some true) (hs : PySem.W.findIn K (.ref C) "__eq__" = some (some (.ref f))) (hf : PySem.W.isFn K (.ref f) = true)
    (h : wpAny (model prog w) A.in1 (call (.ref f) [.ref x, b]) (BoolVal Q) E s) : wpAny (model prog w) A (call (.builtin "object.__ne__") [.ref x, b]) Q E s := by
  have sub : PySem.W.Looks (model prog w) s.heap (isInstance (.ref x) (.type "object")) true := I.type.andThen (PySem.W.looks_mroIn X hm)
  refine wpAny_call (codeAny_call_builtin objNe_plain F.cmpEntry_ne (@PySem.W.check_slot (model prog w) _ _ _ "object.__ne__" "object" "__ne__" (.ref x) [b] [] _ F.cmpKind_ne F.cmpSplit_ne sub (F.cmpArgs_ne _ _) ?_))
  unfold Builtin.«object.__ne__»
  refine wpAny_bind (m := PySem.slotArgs "__ne__" 1 _) (wpAny_pure ?_)
  refine wpAny_bind (m := cRoomFor _ _) (wpAny_cRoomFor hu ?_)
  refine wpAny_bind (m := callSpecialIfBound? (.ref x) (Str.ofString "__eq__") [b]) (PySem.W.ifBound_K X I hs hf (wpAny_mono h (fun v s' hv => ?_) fun _ _ z => z))
  obtain ⟨k, rfl, q⟩ := hv
  exact wpAny_bind (wpAny_truthy_bool (wpAny_pure q))
theorem ifBound_ne {M : Model} {args : List Value} {Q : Option Value → Shared → Prop} (X : K.In s.heap) (I : PySem.W.InstAt s.heap x ox C od) (hne : PySem.W.findIn K (.ref C) "__ne__" = some (some (.builtin "object.__ne__")))
    (h : wpAny M A (call (.builtin "object.__ne__") (.ref x :: args)) (fun v => Q (some v)) E s) : wpAny M A (callSpecialIfBound? (.ref x) "__ne__" args) Q E s := by
  have fin : wpAny M A (call (.builtin "object.__ne__") ([.ref x] ++ args) >>= fun v => pure (some v)) Q E s :=
    wpAny_bind (wpAny_mono h (fun v s' h' => wpAny_pure h') fun _ _ h' => h')
  simp only [callSpecialIfBound?, bindSpecialIfBound?]
  refine wpAny_holding (wpAny_bind (wpAny_bind (wpAny_bind (I.type.here ((PySem.W.looks_findIn X hne).here ?_)))))
  refine wpAny_bind (wpAny_askSetting (wpAny_ite ?_))
  rw [objNe_bind]
  split
  · exact wpAny_bind (wpAny_pure (wpAny_pure (by exact fin)))
  · exact wpAny_tryCatch (wpAny_bind (wpAny_pure (wpAny_pure (by exact fin))))
theorem ne_K {Q : Value → Shared → Prop} (hu : A.units + 1 < cLine) (F : PyProof.Rows.Fr h₀ L s.heap m) (X₀ : K.In h₀) (I : PySem.W.InstAt s.heap x ox C od) (hb : PySem.W.Looks (model prog w) s.heap (typeOf b) tb) (hn : PySem.W.notFirst K C tb = true)
    (hm : PySem.W.mroIn K C (.type "object") = some true) (hne : PySem.W.findIn K (.ref C) "__ne__" = some (some (.builtin "object.__ne__"))) (hs : PySem.W.findIn K (.ref C) "__eq__" = some (some (.ref f))) (hf : PySem.W.isFn K (.ref f) = true)
    (h : wpAny (model prog w) A.in1 (call (.ref f) [.ref x, b]) (BoolVal Q) E s) : wpAny (model prog w) A (richCompare .NotEq (.ref x) b) Q E s := by
  have X := X₀.keeps F.keep
  have run : wpAny (model prog w) A (call (.builtin "object.__ne__") [.ref x, b]) (fun v s' => v ≠ .notImplemented ∧ Q v s') E s :=
    ne_run hu X I hm hs hf (wpAny_mono h (fun v s' hv => by obtain ⟨k, rfl, q⟩ := hv; exact ⟨k, rfl, (fun z => nomatch z), q⟩) fun _ _ z => z)
  have one : wpAny (model prog w) A (tryCompare (.ref x) (cmpInfo .NotEq).2.1 b) (fun r s' => ∃ v, r = some v ∧ Q v s') E s := by
    unfold tryCompare
    refine wpAny_bind (ifBound_ne X I hne (wpAny_mono run (fun v s' h' => ?_) fun _ _ z => z))
    obtain ⟨n1, q⟩ := h'
    cases v <;> first | exact absurd rfl n1 | exact wpAny_pure ⟨_, rfl, q⟩
  unfold richCompare
  simp only [PySem.oneThing_ref]
  refine wpAny_holding (wpAny_bind (wpAny_cRoomFor (by omega) ?_))
  refine wpAny_bind (I.type.here (wpAny_bind (hb.here ?_)))
  split
  · rename_i q
    have e : PySem.W.subIn K tb (.ref C) = some false := by
      rcases Bool.or_eq_true_iff.mp hn with e | e
      · rw [beq_iff_eq.mp e] at q; simp at q
      · exact beq_iff_eq.mp e
    refine wpAny_bind ((PySem.W.looks_subIn X e).here ?_)
    simp only [Bool.false_eq_true, if_false]
    refine wpAny_bind (wpAny_mono one (fun r s' z => ?_) fun _ _ z => z)
    obtain ⟨v, rfl, hq⟩ := z
    exact wpAny_pure hq
  · refine wpAny_bind (wpAny_pure ?_)
    simp only [Bool.false_eq_true, if_false]
    refine wpAny_bind (wpAny_mono one (fun r s' z => ?_) fun _ _ z => z)
    obtain ⟨v, rfl, hq⟩ := z
    exact wpAny_pure hq
end
def plainOth : DV → Bool
  | .tup _ => true
  | .non => true
  | _ => false
def othOk (c : Str) (h : DH) (b : DV) : Bool := isIns c h b || plainOth b
def cmpOf (neg : Bool) : Res DV → Res DV
  | .ok (.bl b) h => .ok (.bl (b != neg)) h
  | _ => .bad
def dEqO (c : Str) (F : Fn) (neg : Bool) (da db : DE) : DE := fun σ h => (da σ h).bind fun a h1 => (db σ h1).bind fun b h2 => chk (isIns c h2 a && othOk c h2 b) (cmpOf neg (F [a, b] h2))
theorem cmpOf_ok {neg : Bool} {r : Res DV} {ok : DV → DH → Prop} {ex : Str → DH → Prop} (k : Rz ok ex (cmpOf neg r)) : ∃ b h, r = .ok (.bl b) h ∧ ok (.bl (b != neg)) h := by
  cases r with
  | ok w h =>
    cases w with
    | bl z => exact ⟨z, h, rfl, k⟩
    | _ => exact k.elim
  | exc c h => exact k.elim
  | bad => exact k.elim
section
variable {X : Cx} {E : L2.St → XK} {a b : Expr} {pos : Pos} {da db : DE} {c : Str} {C : Addr} {k j n : Nat} {F : Fn}
theorem oth_looks {pins : List (Addr × Obj)} {σ : L2.St} {H : Hp} {s : Shared} {Hb : Hp} {ρ : List Addr} {Fr : Hp} {h : DH} {y : V} {w : DV} {u : Value} (hc : ClU X.K c C) (I : Inv X pins σ H s) (R : Rel X.K Hb ρ Fr h H) (r : RepT X.K Hb ρ Fr y w) (ry : RelV y u) (e : othOk c h w = true) :
    ∃ tb, PySem.W.Looks (model X.prog X.w) s.heap (typeOf u) tb ∧ PySem.W.notFirst X.K C tb = true := by
  rcases Bool.or_eq_true_iff.mp e with e | e
  · obtain ⟨fs, ei⟩ := Option.isSome_iff_exists.mp e
    obtain ⟨m, p, dx, gs, rfl, rfl, ea, hq, rr⟩ := ins_at hc.ns R r ei
    cases ry
    obtain ⟨mA, J, _⟩ := ins_get I.hok hq
    obtain ⟨od, J, _⟩ := J.look
    exact ⟨.ref C, J.type, by unfold PySem.W.notFirst; rw [show (Value.ref C == Value.ref C) = true from beq_self_eq_true _]; rfl⟩
  · cases w with
    | tup ws =>
      obtain ⟨p, xs, rfl, hq, _⟩ := tup_of R r
      cases ry
      obtain ⟨its, _, ⟨o, ho, hcl, _⟩, _⟩ := I.tuple hq
      exact ⟨.type "tuple", hcl ▸ (PySem.W.Looks.ld ho).andThen .now, by unfold PySem.W.notFirst; rw [hc.nT]; simp⟩
    | non =>
      rw [non_of r] at ry
      cases (show u = Value.none from ry)
      exact ⟨.type "NoneType", PySem.W.Looks.of_pure rfl, by unfold PySem.W.notFirst; rw [hc.nN]; simp⟩
    | _ => cases e
def rEqO (K : PySem.W.Frag) (c : Str) (F : Fn) (neg : Bool) : R2 := fun x y H Q => ∃ (Hb : Hp) (ρ : List Addr) (Fr : Hp) (h : DH) (a b : DV), Rel K Hb ρ Fr h H ∧ RepT K Hb ρ Fr x a ∧ RepT K Hb ρ Fr y b ∧ isIns c h a = true ∧ othOk c h b = true ∧ ∃ v h', F [a, b] h = .ok (.bl v) h' ∧ Pst K Hb ρ Fr Q (.bl (v != neg)) h'
theorem op_eqO (hc : ClU X.K c C) (hf : MthOk X.prog X.w X.K X.mg X.base C "__eq__" k 2 F) (hr : Room j X.A) (hj : k ≤ j) : OpR X (compareOp .Eq) (rEqO X.K c F false) := by
  intro pins s σ H x y v u Q I rx ry h
  obtain ⟨Hb, ρ, Fr, hh, a, b, R, ra, rb, hi, ho, z, h', e, q⟩ := h
  obtain ⟨f, fd, ps, h1, h2, h3⟩ := hf.ex
  obtain ⟨fs, ei⟩ := Option.isSome_iff_exists.mp hi
  obtain ⟨m, p, dx, gs, rfl, rfl, ea, hq, rr⟩ := ins_at hc.ns R ra ei
  cases rx
  obtain ⟨tb, L, nf⟩ := oth_looks hc I R rb ry ho
  obtain ⟨mA, J, _⟩ := ins_get I.hok hq
  obtain ⟨od, J, _⟩ := J.look
  obtain ⟨mm, hF⟩ := I.fr
  show wpAny (model X.prog X.w) X.A (richCompare .Eq (.ref p) u) (EP X pins σ Q) X.xe s
  refine PySem.W.cmp_K (op := .Eq) hr.units0 hF I.ok.mod.kin J L nf h2.at_ h2.fn (wpAny_mono (run_special (Q := fun v H' => v = .bl z ∧ Q (.bl z) H') h1 h3 (hr.mono hj) rfl I (us := [.ref p, u]) (vs := [.ref p, y]) (.cons rfl (.cons ry .nil)) R (.cons ra (.cons rb .nil)) rfl e fun Hb' ρ' H' y s1 p1 R' ry => ?_) (fun v s' z' => ?_) fun _ _ z => z)
  · have : y = .bl z := by cases ry; rfl
    subst this
    have q := q Hb' ρ' H' (.bl (z != false)) s1 p1 R' (.per (.bl _))
    rw [Bool.bne_false] at q
    exact ⟨rfl, q⟩
  · obtain ⟨y, H', I', ry, ey, q'⟩ := z'
    subst ey
    cases (show v = Value.bool z from ry)
    exact ⟨.bl z, H', I', rfl, q'⟩
theorem op_neO (hc : ClU X.K c C) (hne : PySem.W.findIn X.K (.ref C) "__ne__" = some (some (.builtin "object.__ne__"))) (hf : MthOk X.prog X.w X.K X.mg X.base C "__eq__" k 2 F) (hr : Room j X.A) (hj : k + 1 ≤ j) : OpR X (compareOp .NotEq) (rEqO X.K c F true) := by
  intro pins s σ H x y v u Q I rx ry h
  obtain ⟨Hb, ρ, Fr, hh, a, b, R, ra, rb, hi, ho, z, h', e, q⟩ := h
  obtain ⟨f, fd, ps, h1, h2, h3⟩ := hf.ex
  obtain ⟨fs, ei⟩ := Option.isSome_iff_exists.mp hi
  obtain ⟨m, p, dx, gs, rfl, rfl, ea, hq, rr⟩ := ins_at hc.ns R ra ei
  cases rx
  obtain ⟨tb, L, nf⟩ := oth_looks hc I R rb ry ho
  obtain ⟨mA, J, _⟩ := ins_get I.hok hq
  obtain ⟨od, J, _⟩ := J.look
  obtain ⟨mm, hF⟩ := I.fr
  show wpAny (model X.prog X.w) X.A (richCompare .NotEq (.ref p) u) (EP X pins σ Q) X.xe s
  refine ne_K (by have := hr.units; omega) hF I.ok.mod.kin J L nf hc.hm hne h2.at_ h2.fn (wpAny_mono (run_special (Q := fun v H' => v = .bl z ∧ Q (.bl (!z)) H') h1 h3 ((hr.mono hj).in1) rfl I (us := [.ref p, u]) (vs := [.ref p, y]) (.cons rfl (.cons ry .nil)) R (.cons ra (.cons rb .nil)) rfl e fun Hb' ρ' H' y s1 p1 R' ry => ?_) (fun v s' z' => ?_) fun _ _ z => z)
  · have : y = .bl z := by cases ry; rfl
    subst this
    have q := q Hb' ρ' H' (.bl (z != true)) s1 p1 R' (.per (.bl _))
    rw [Bool.bne_true] at q
    exact ⟨rfl, q⟩
  · obtain ⟨y, H', I', ry, ey, q'⟩ := z'
    subst ey
    cases (show v = Value.bool z from ry)
    exact ⟨z, rfl, .bl (!z), H', I', rfl, q'⟩
theorem deqo_run {neg : Bool} {s : L2.St} {H : Hp} {Q : VK} (h : tD X.K X.mg E (dEqO c F neg da db) s H Q) : tOp (rEqO X.K c F neg) (tD X.K X.mg E da) (tD X.K X.mg E db) s H Q := by
  obtain ⟨Hb, ρ, F0, Fr, σ, h, R, x, k⟩ := h
  refine ⟨Hb, ρ, F0, Fr, σ, h, R, x, (Rz.bind k).imp (fun wa h1 k => ?_) fun _ _ z => z⟩
  intro Hb1 ρ1 H1 v1 s1 p1 R1 r1
  refine ⟨Hb1, ρ1, F0, Fr, σ, h1, R1, x.mono s1 p1, (Rz.bind k).imp (fun wb h2 k => ?_) (Pex.back s1 p1)⟩
  obtain ⟨hi, k⟩ := Rz.chk k
  rw [Bool.and_eq_true] at hi
  obtain ⟨v, h', e, q⟩ := cmpOf_ok k
  intro Hb2 ρ2 H2 v2 s2 p2 R2 r2
  exact ⟨Hb2, ρ2, Fr, h2, wa, wb, R2, r1.mono s2 p2 (Same.refl _), r2, hi.1, hi.2, v, h', e, Pst.back (s1.trans s2) (p1.trans p2) _ _ q⟩
theorem se_eqO (hc : ClU X.K c C) (hf : MthOk X.prog X.w X.K X.mg X.base C "__eq__" k 2 F) (hr : Room j X.A) (hj : k ≤ j) (ha : SE X E a da) (hb : SE X E b db) (hm : behindInMarks .Eq b = false := by rfl) : SE X E (.Compare a [.Eq] [b] pos) (dEqO c F false da db) :=
  (pe_cmpR (op_eqO hc hf hr hj) ha hb hm).weak fun s H Q h => deqo_run h
theorem st_eqO (hc : ClU X.K c C) (hf : MthOk X.prog X.w X.K X.mg X.base C "__eq__" k 2 F) (hr : Room j X.A) (hj : k ≤ j) (ha : SE X E a da) (hb : SE X E b db) (hm : behindInMarks .Eq b = false := by rfl) : ST X E (.Compare a [.Eq] [b] pos) (dEqO c F false da db) :=
  (pt_cmpR (op_eqO hc hf hr hj) ha hb hm).weak fun s H Q h => deqo_run (tT_run h)
theorem st_neO (hc : ClU X.K c C) (hne : PySem.W.findIn X.K (.ref C) "__ne__" = some (some (.builtin "object.__ne__"))) (hf : MthOk X.prog X.w X.K X.mg X.base C "__eq__" k 2 F) (hr : Room j X.A) (hj : k + 1 ≤ j) (ha : SE X E a da) (hb : SE X E b db) (hm : behindInMarks .NotEq b = false := by rfl) : ST X E (.Compare a [.NotEq] [b] pos) (dEqO c F true da db) :=
  (pt_cmpR (op_neO hc hne hf hr hj) ha hb hm).weak fun s H Q h => deqo_run (tT_run h)
theorem kit_tyC {K : PySem.W.Frag} {C : Addr} {n : String} {b : Bool} (ht : PySem.W.typeIn K (.ref C) = some (.type "type")) (hd : PySem.W.hasDictIn K C = true) (hs : PySem.W.subIn K (.type n) (.ref C) = some b) : PySem.W.kitOne K (.type n) (.ref C) = some b := by
  unfold PySem.W.kitOne
  rw [if_neg (by intro z; cases beq_iff_eq.mp z)]
  obtain ⟨cd, hc, _⟩ := PySem.W.any_some hd
  show (if ((PySem.W.clsIn K C).isSome && PySem.W.typeIn K (.ref C) == some (.type "type")) = true then PySem.W.subIn K (.type n) (.ref C) else none) = some b
  rw [if_pos (by rw [hc, ht]; rfl)]
  exact hs
def gIsO (c : Str) (h : DH) (w : DV) : Option DV := if isIns c h w then some (.bl true) else if plainOth w then some (.bl false) else none
def dIsO (c : Str) (d : DE) : DE := fun σ h => (d σ h).bind fun w h1 => ofO (gIsO c h1 w) h1
theorem cls_rep {K : PySem.W.Frag} {Hb : Hp} {ρ : List Addr} {Fr : Hp} {x : V} {v : V} (r : RepT K Hb ρ Fr x (.con v)) : x = v := by
  cases r with
  | per r => cases r; rfl
theorem se_isO {e : Expr} {p p2 : Pos} {d : DE} {x : Str} (hc : ClU X.K x C) (hg : Gl X "isinstance") (hm : X.mg "isinstance" = none) (hgx : Gl X x) (hmx : X.mg x = some (.ref C)) (he : SE X E e d) (hs : starEach [e, .Name x p2] X.env = (false, eval e X.env) :: starEach [.Name x p2] X.env := by rfl) (hs2 : starEach [.Name x p2] X.env = (false, eval (.Name x p2) X.env) :: starEach [] X.env := by rfl) (hdb : (x == ("__debug__" : Str)) = false := by decide)
    (hpl : (backTo pos (starEach [.Name x p2] X.env)).any (·.1) = false := by rfl) :
    SE X E (.Call (.Name "isinstance" p) [e, .Name x p2] [] pos) (dIsO x d) := by
  have hcls : SE X E (.Name x p2) (dC (.con (.ref C))) := se_c (v := .ref C) (pe_glob hgx hmx rfl hdb) fun _ _ => .con _
  refine (pe_callB call_isi hg hm (by decide +kernel) (sa_cons he (sa_cons hcls sa_nil hs2) hs) (by decide) (by decide) hs hpl).weak fun s H Q ⟨Hb, ρ, F0, Fr, σ, h, R, x', k⟩ => ?_
  refine ⟨Hb, ρ, F0, Fr, σ, h, R, x', ?_⟩
  have k : Rz (Pst X.K Hb ρ Fr Q) (Pex X.K X.mg Hb ρ Fr (E s)) ((d σ h).bind fun w h1 => ofO (gIsO x h1 w) h1) := k
  unfold daCons daNil
  cases eo : d σ h with
  | bad => rw [eo] at k; exact k.elim
  | exc c h1 => rw [eo] at k; exact k
  | ok o h1 =>
    rw [eo] at k
    obtain ⟨w, ew, kk⟩ := Rz.ofO (show Rz _ _ (ofO (gIsO x h1 o) h1) from k)
    clear k
    intro Hb1 ρ1 H1 vs s1 p1 R1 r1
    cases r1 with
    | cons r r' =>
      cases r' with
      | cons r2 r' =>
        cases r'
        have e2 := cls_rep r2
        subst e2
        unfold gIsO at ew
        by_cases hi : isIns x h1 o = true
        · rw [if_pos hi] at ew
          cases ew
          obtain ⟨fs, ei⟩ := Option.isSome_iff_exists.mp hi
          obtain ⟨m, a, dx, gs, rfl, rfl, ea, hq, rr⟩ := ins_at hc.ns R1 r ei
          exact ⟨.ref a, .ref C, .ref C, .ref C, true, rfl, .own C, .base (TyOf.ins hq hc.cl hc.ha hc.hn hc.htk hc.hm), kit_own hc.ty hc.cl.hd hc.me hc.me, kk Hb1 ρ1 H1 _ s1 p1 R1 (.per (.bl _))⟩
        · rw [if_neg hi] at ew
          cases o with
          | tup ws =>
            cases ew
            obtain ⟨p, xs, rfl, hq, _⟩ := tup_of R1 r
            exact ⟨.ref p, .ref C, .type "tuple", .ref C, false, rfl, .own C, sqt_ty hq, kit_tyC hc.ty hc.cl.hd hc.nT, kk Hb1 ρ1 H1 _ s1 p1 R1 (.per (.bl _))⟩
          | non =>
            cases ew
            rw [non_of r]
            exact ⟨.non, .ref C, .type "NoneType", .ref C, false, rfl, .own C, .base .non, kit_tyC hc.ty hc.cl.hd hc.nN, kk Hb1 ρ1 H1 _ s1 p1 R1 (.per (.bl _))⟩
          | _ => cases ew
end
end DL
namespace DL
open PySem PySem.Spec PyProof.Rows L2
def intsDown (hi : Int) : Nat → List DV
  | 0 => []
  | n + 1 => .int hi :: intsDown (hi - 1) n
theorem intsDown_length : ∀ (n : Nat) (hi : Int), (intsDown hi n).length = n
  | 0, _ => rfl
  | n + 1, hi => congrArg (· + 1) (intsDown_length n (hi - 1))
theorem intsDown_get : ∀ (n : Nat) (hi : Int) (i : Nat) (w : DV), (intsDown hi n)[i]? = some w → i < n ∧ w = .int (hi + (i : Nat) * (-1))
  | 0, _, _, _, e => by cases e
  | n + 1, hi, 0, w, e => by cases e; exact ⟨Nat.succ_pos n, by simp⟩
  | n + 1, hi, i + 1, w, e => by
    obtain ⟨h1, h2⟩ := intsDown_get n (hi - 1) i w e
    refine ⟨by omega, h2.trans (congrArg DV.int ?_)⟩
    omega
theorem src_down {K : PySem.W.Frag} (hi : Int) (n : Nat) : Src K (Itc hi (-1) n) (intsDown hi n) (fun _ _ _ => True) where
  mono := fun _ _ _ _ _ _ _ z => z
  stop := fun _ _ _ _ _ _ _ _ _ => Nat.le_of_eq (intsDown_length n hi).symm
  go := fun Hb ρ G Fr h H i w _ _ R e => by
    obtain ⟨h1, h2⟩ := intsDown_get n hi i w e
    refine ⟨h1, fun x H' y => ?_⟩
    obtain ⟨rfl, rfl⟩ := y
    subst h2
    exact ⟨Hb, Same.refl _, R, .int _⟩
def gRevRg : DV → Option (List DV)
  | .int j => if -1000000 ≤ j ∧ j ≤ 1000000 then some (intsDown (0 + ((j - 0).toNat : Int) - 1) (j - 0).toNat) else none
  | _ => none
def dRevRg (d : DE) : DA := fun σ h => (d σ h).bind fun w h1 => ofO (gRevRg w) h1
def gRange3 : List DV → Option (List DV)
  | [.int i, .int j, .int c] => if c = -1 ∧ -1000000 ≤ i ∧ i ≤ 1000000 ∧ -1000000 ≤ j ∧ j ≤ 1000000 then some (intsDown i (i - j).toNat) else none
  | _ => none
section
variable {X : Cx} {E : L2.St → XK} {c : Bool} {tg a b e3 : Expr} {d : DE} {da : DA} {p p2 pos pos2 : Pos}
theorem si_revR (hg : Gl X "reversed") (hm : X.mg "reversed" = none) (hg2 : Gl X "range") (hm2 : X.mg "range" = none) (ha : SE X E a d) (na : starEach [a] X.env = (false, eval a X.env) :: starEach [] X.env := by rfl) (hs : starEach [.Call (.Name "range" p2) [a] [] pos2] X.env = (false, eval (.Call (.Name "range" p2) [a] [] pos2) X.env) :: starEach [] X.env := by rfl) :
    SI X E c tg (.Call (.Name "reversed" p) [.Call (.Name "range" p2) [a] [] pos2] [] pos) (dRevRg d) := (pi_revR hg hm (prg_1 hg2 hm2 ha na) hs).weak fun s H Rr ⟨Hb, ρ, F0, Fr, σ, h, R, x, k⟩ => by
  refine ⟨Hb, ρ, F0, Fr, σ, h, R, x, (Rz.bind k).imp (fun w h1 k => ?_) fun _ _ z => z⟩
  obtain ⟨rs, er, k⟩ := Rz.ofO k
  intro Hb1 ρ1 H1 v s1 p1 R1 r1
  cases w with
  | int j =>
    have er : (if -1000000 ≤ j ∧ j ≤ 1000000 then some (intsDown (0 + ((j - 0).toNat : Int) - 1) (j - 0).toNat) else none) = some rs := er
    by_cases hj : -1000000 ≤ j ∧ j ≤ 1000000
    · rw [if_pos hj] at er
      cases er
      rw [int_of r1]
      exact ⟨j, rfl, by omega, by omega, by omega, by omega, k Hb1 ρ1 H1 _ _ s1 p1 R1 (src_down _ _) trivial⟩
    · rw [if_neg hj] at er; cases er
  | _ => cases er
theorem si_range3 (hg : Gl X "range") (hm : X.mg "range" = none) (ha : SA X E [a, b, e3] da) (hs : starEach [a, b, e3] X.env = (false, eval a X.env) :: starEach [b, e3] X.env := by rfl) (hpl : (backTo pos (starEach [b, e3] X.env)).any (·.1) = false := by rfl) :
    SI X E c tg (.Call (.Name "range" p) [a, b, e3] [] pos) (dSrc gRange3 da) := (pi_range3 hg hm ha hs hpl).weak fun s H Rr ⟨Hb, ρ, F0, Fr, σ, h, R, x, k⟩ => by
  refine ⟨Hb, ρ, F0, Fr, σ, h, R, x, (Rz.bind k).imp (fun ws h1 k => ?_) fun _ _ z => z⟩
  obtain ⟨rs, er, kk⟩ := Rz.ofO k
  clear k
  intro Hb1 ρ1 H1 vs s1 p1 R1 r1
  unfold gRange3 at er
  split at er
  · rename_i i j u
    by_cases hj : u = -1 ∧ -1000000 ≤ i ∧ i ≤ 1000000 ∧ -1000000 ≤ j ∧ j ≤ 1000000
    · rw [if_pos hj] at er
      cases er
      cases r1 with
      | cons r rr =>
        cases rr with
        | cons r' rr =>
          cases rr with
          | cons r'' rr =>
            cases rr
            cases int_of r
            cases int_of r'
            cases int_of r''
            obtain ⟨rfl, h1, h2, h3, h4⟩ := hj
            exact ⟨i, j, -1, (i - j).toNat, rfl, RgC.neg (by omega) (by omega) (by omega) (by omega), kk Hb1 ρ1 H1 _ _ s1 p1 R1 (src_down _ _) trivial⟩
    · rw [if_neg hj] at er; cases er
  · cases er
end
def dNewLof (i : Nat) (da : DA) : DS := fun σ h => (da σ h).bind fun ws h1 => (ofO (one1 ws) h1).bind fun w h2 => (ofO (seqC h2 w) h2).bind fun us h3 => .ok (.next (setO i us σ)) h3
section
variable {X : Cx} {E : XK} {e : Expr} {pos pos' p2 p3 : Pos} {da : DA} {x : Str}
theorem ss_newLof {i : Nat} (hg : Gl X "list") (hm : X.mg "list" = none) (ha : SA X (cE E) [e] da) (hP : ∀ t, PE X (.Call (.Name "list" p2) [e] [] p3) t → PS X (.Assign [.Name x pos'] (.Call (.Name "list" p2) [e] [] p3) pos) (tAsg t (gName i)))
    (hs : starEach [e] X.env = (false, eval e X.env) :: starEach [] X.env := by rfl) : SS X E (.Assign [.Name x pos'] (.Call (.Name "list" p2) [e] [] p3) pos) (dNewLof i da) :=
  (hP _ (pe_callTy call_list_of hg hm (by decide +kernel) ha (by decide) (by decide) hs rfl)).weak fun D s H ⟨Hb, ρ, F0, Fr, σ, h, R, x, k⟩ => by
  refine ⟨Hb, ρ, F0, Fr, σ, h, R, x, (Rz.bind k).imp (fun ws h1 k => ?_) (Pex.lift x.fr)⟩
  obtain ⟨w, ew, k⟩ := Rz.ofO (Rz.bind k)
  obtain ⟨us, eu, kk⟩ := Rz.ofO (Rz.bind k)
  clear k
  intro Hb1 ρ1 H1 vs s1 p1 R1 r1
  obtain ⟨y, rfl, ry⟩ : ∃ y, vs = [y] ∧ RepT X.K Hb1 ρ1 Fr y w := by
    cases r1 with
    | nil => cases ew
    | cons ra rb =>
      cases rb with
      | nil => cases ew; exact ⟨_, rfl, ra⟩
      | cons _ _ => cases ew
  have x1 := x.mono s1 p1
  have fin : ∀ (xs : List V) (p : Addr), Reps X.K Hb1 ρ1 xs us → H1 p = none → D.nx (s.set i (some (.ref p))) (upd H1 p (.lst xs)) := fun xs p rr hp =>
    kk Hb1 ρ1 (upd Fr p (.lst xs)) _ _ s1 p1 (R1.lend hp (.lst xs)) (slots_own (slots_frame (same_lend (R1.fr_fresh hp)) x1) upd_same (Same.free x1.fr (R1.fr_fresh hp)) (fun j zs _ e => slots_fresh R1 x1 hp j zs e) rr)
  unfold seqC at eu
  cases ec : cellAt h1 w with
  | some zs =>
    rw [ec] at eu
    cases eu
    obtain ⟨n, p, xs, rfl, rfl, ea, hq, rr⟩ := cell_at R1 ry ec
    exact ⟨p, xs, rfl, .inl (SqL.of hq), fun c hp => fin xs c rr hp⟩
  | none =>
    rw [ec] at eu
    obtain ⟨p, ys, ex, hq, rr⟩ := seq_of R1 ry eu
    exact ⟨p, ys, by rw [ex], hq, fun c hp => fin ys c rr hp⟩
end
def gStrS : List DV → DH → Option DV := g1 fun w _ => match w with
  | .str z => some (.str z)
  | _ => none
theorem se_strS {X : Cx} {E : L2.St → XK} {e : Expr} {pos p : Pos} {da : DA} (hg : Gl X "str") (hm : X.mg "str" = none) (ha : SA X E [e] da)
    (hs : starEach [e] X.env = (false, eval e X.env) :: starEach [] X.env := by rfl) : SE X E (.Call (.Name "str" p) [e] [] pos) (dFn gStrS da) :=
  se_callTy SkE.call_str_str (cd1 fun Hb ρ Fr h H x a w Q R r1 e k => by
    cases a with
    | str z => cases e; exact ⟨z, by rw [str_of r1], Pst.same R k (.per (.str z))⟩
    | _ => cases e) hg hm (by decide +kernel) ha (by decide) (by decide) hs rfl
end DL
namespace DL
open PySem PySem.Spec PyProof.Rows L2
section
variable {α β : Type} {h : DH} {σ : DSt} {d da db dv dw : DE} {dr : DA} {c f m : Str} {F : Fn}
@[simp] theorem dFld_ap : dFld c f d σ h = (d σ h).bind fun w h1 => ofO (fldAt c f h1 w) h1 := nrfl rfl
@[simp] theorem dPutF_ap : dPutF c f dv dw σ h = (dv σ h).bind fun w h1 => chk (held w) ((dw σ h1).bind fun o h2 => nextO σ (putAt c f w o h2)) := nrfl rfl
@[simp] theorem dCellL_ap : dCellL dr σ h = (dr σ h).bind fun ws h1 => chk (heldAll ws) (chk (le_cap ws.length) (.ok (.ref h1.length) (h1 ++ [.lst ws]))) := nrfl rfl
@[simp] theorem dMutC_ap (g : DV → List DV → Option (List DV)) : dMutC g d dr σ h = (d σ h).bind fun o h1 => chk (cellAt h1 o).isSome ((dr σ h1).bind fun ws h2 => (ofO (one1 ws) h2).bind fun w h3 => nextO σ (mutC (g w) o h3)) := nrfl rfl
@[simp] theorem dPopC_ap : dPopC d σ h = (d σ h).bind fun o h1 => nextO σ (mutC popL o h1) := nrfl rfl
@[simp] theorem dOpH_ap (g : DH → DV → DV → Option DV) : dOpH g da db σ h = (da σ h).bind fun a h1 => (db σ h1).bind fun b h2 => ofO (g h2 a b) h2 := nrfl rfl
@[simp] theorem dMth_ap (n : Nat) : dMth c m n F d dr σ h = (d σ h).bind fun o h1 => chk (insNo c m h1 o && held o) ((dr σ h1).bind fun ws h2 => chk (ws.length + 1 == n) (F (o :: ws) h2)) := nrfl rfl
@[simp] theorem dMake_ap (n : Nat) : dMake c n F dr σ h = (dr σ h).bind fun ws h1 => chk (ws.length + 1 == n) ((F (.ref (h1.length + 1) :: ws) (h1 ++ [.own] ++ [.obj c []])).bind fun v h2 => chk (isNon v) (.ok (.ref (h1.length + 1)) h2)) := nrfl rfl
@[simp] theorem dLenO_ap : dLenO c F d σ h = (d σ h).bind fun o h1 => chk (isIns c h1 o) (lenOf (F [o] h1)) := nrfl rfl
@[simp] theorem dStrO_ap : dStrO c F d σ h = (d σ h).bind fun o h1 => chk (isIns c h1 o) (strOf (F [o] h1)) := nrfl rfl
@[simp] theorem dEqO_ap (neg : Bool) : dEqO c F neg da db σ h = (da σ h).bind fun a h1 => (db σ h1).bind fun b h2 => chk (isIns c h2 a && othOk c h2 b) (cmpOf neg (F [a, b] h2)) := nrfl rfl
@[simp] theorem dIsO_ap : dIsO c d σ h = (d σ h).bind fun w h1 => ofO (gIsO c h1 w) h1 := nrfl rfl
@[simp] theorem dCellOf_ap : dCellOf dr σ h = (dr σ h).bind fun ws h1 => (ofO (one1 ws) h1).bind fun w h2 => (ofO (seqC h2 w) h2).bind fun us h3 => .ok (.ref h3.length) (h3 ++ [.lst us]) := nrfl rfl
@[simp] theorem dRevRg_ap : dRevRg d σ h = (d σ h).bind fun w h1 => ofO (gRevRg w) h1 := nrfl rfl
@[simp] theorem dNewLof_ap (i : Nat) : dNewLof i dr σ h = (dr σ h).bind fun ws h1 => (ofO (one1 ws) h1).bind fun w h2 => (ofO (seqC h2 w) h2).bind fun us h3 => .ok (.next (setO i us σ)) h3 := nrfl rfl
@[simp] theorem nextO_some : nextO σ (some h) = .ok (.next σ) h := nrfl rfl
@[simp] theorem lenOf_int {i : Int} (h0 : 0 ≤ i ∧ i ≤ 1000) : lenOf (.ok (.int i) h) = .ok (.int i) h := if_pos h0
@[simp] theorem strOf_str {z : Str} : strOf (.ok (.str z) h) = .ok (.str z) h := nrfl rfl
@[simp] theorem cmpOf_bl {neg b : Bool} : cmpOf neg (.ok (.bl b) h) = .ok (.bl (b != neg)) h := nrfl rfl
@[simp] theorem isNon_non : isNon .non = true := nrfl rfl
@[simp] theorem runF5 (m : Nat) (s1 : DS) (a b c e g : DV) : runF 5 m s1 [a, b, c, e, g] h = (s1 (.val a :: .val b :: .val c :: .val e :: .val g :: List.replicate (m - 5) .un) h).bind finish := nrfl rfl
theorem insAt_of {n : Nat} {fs : List (Str × DV)} (e : h[n]? = some (.obj c fs)) : insAt c h (.ref n) = some fs := by
  show (match h[n]? with | some (.obj b fs) => if b = c then some fs else none | _ => none) = _
  rw [e]
  exact if_pos rfl
theorem fldAt_of {n : Nat} {fs : List (Str × DV)} {w : DV} (e : h[n]? = some (.obj c fs)) (l : fs.lookup f = some w) : fldAt c f h (.ref n) = some w := by
  unfold fldAt
  rw [insAt_of e]
  exact l
theorem insNo_of {n : Nat} {fs : List (Str × DV)} (e : h[n]? = some (.obj c fs)) (l : fs.lookup m = none) : insNo c m h (.ref n) = true := by
  unfold insNo
  rw [insAt_of e]
  show (fs.lookup m).isNone = true
  rw [l]; rfl
theorem isIns_of {n : Nat} {fs : List (Str × DV)} (e : h[n]? = some (.obj c fs)) : isIns c h (.ref n) = true := by
  unfold isIns
  rw [insAt_of e]; rfl
theorem putAt_of {n : Nat} {fs : List (Str × DV)} {w : DV} (e : h[n]? = some (.obj c fs)) (l : fs.length < 1000) : putAt c f w (.ref n) h = some (h.set n (.obj c (putW f w fs))) := by
  unfold putAt
  rw [insAt_of e]
  exact if_pos l
theorem cellAt_of {n : Nat} {ws : List DV} (e : h[n]? = some (.lst ws)) : cellAt h (.ref n) = some ws := by
  show (match h[n]? with | some (.lst ws) => some ws | _ => none) = _
  rw [e]
theorem mutC_of {n : Nat} {ws zs : List DV} {g : List DV → Option (List DV)} (e : h[n]? = some (.lst ws)) (eg : g ws = some zs) : mutC g (.ref n) h = some (h.set n (.lst zs)) := by
  unfold mutC
  show (cellAt h (.ref n)).bind _ = _
  rw [cellAt_of e, Option.bind_some, eg]; rfl
theorem gApp_of {w : DV} {ws : List DV} (h1 : held w = true) (h2 : ws.length < 1000) : gApp w ws = some (ws ++ [w]) := if_pos ⟨h1, by unfold cap; omega⟩
end
end DL
namespace DL
open PySem PySem.Spec PyProof.Rows L2
def strsOf : List DV → Option (List Str)
  | [] => some []
  | .str z :: ws => (strsOf ws).map fun zs => z :: zs
  | _ => none
theorem strsOf_rep {K : PySem.W.Frag} {Hb : Hp} {ρ : List Addr} : ∀ {ws : List DV} {xs : List V} {zs : List Str}, Reps K Hb ρ xs ws → strsOf ws = some zs → xs = zs.map V.str
  | [], _, _, r, e => by cases r; cases e; rfl
  | w :: ws, _, _, r, e => by
    cases r with
    | cons r1 rr =>
      cases w with
      | str z =>
        obtain ⟨zs, e2, e⟩ := Option.map_eq_some_iff.mp (show (strsOf ws).map (fun zs => z :: zs) = some _ from e)
        subst e
        cases r1
        rw [strsOf_rep rr e2]; rfl
      | _ => cases e
theorem strsOf_map (zs : List Str) : strsOf (zs.map .str) = some zs := by
  induction zs with
  | nil => rfl
  | cons z zs ih =>
    show (strsOf (zs.map .str)).map _ = _
    rw [ih]; rfl
def gJoin : DV → DV → Option DV := fun a b => match a with
  | .str x => (seqOf b).bind fun ws => (strsOf ws).bind fun ys => if (ys.map (·.length)).sum + ys.length * x.length ≤ 100000 then some (.str (Txt.join x ys)) else none
  | _ => none
def gSplit : DV → DV → Option DV := fun a b => match a, b with
  | .str x, .str y => if (y.length == 0) = false ∧ x.length + 2 ≤ 100000 then some (.lst ((Txt.split x y).map .str)) else none
  | _, _ => none
def gFind : DV → DV → Option DV := fun a b => match a, b with
  | .str x, .str y => some (.int (Txt.find x y))
  | _, _ => none
def gIxS : DV → DV → Option DV := fun a b => match a, b with
  | .str x, .int i => if x.length ≤ 100000 then (atI x.cps.toList i).map fun c => .str ⟨#[c]⟩ else none
  | _, _ => none
section
variable {X : Cx} {E : L2.St → XK} {o e a b : Expr} {d da db : DE} {apos pos p : Pos}
def MtD (X : Cx) (r : V → List V → Hp → VK → Prop) (g : DV → DV → Option DV) : Prop := ∀ (Hb : Hp) (ρ : List Addr) (Fr : Hp) (h : DH) (H : Hp) (x y : V) (a b w : DV) (Q : VK), Rel X.K Hb ρ Fr h H → RepT X.K Hb ρ Fr x a → RepT X.K Hb ρ Fr y b → g a b = some w → Pst X.K Hb ρ Fr Q w h → r x [y] H Q
def strB : DV → Bool
  | .str _ => true
  | _ => false
def dM1 (g : DV → DV → Option DV) (da db : DE) : DE := fun σ h => (da σ h).bind fun a h1 => chk (strB a) ((db σ h1).bind fun b h2 => ofO (g a b) h2)
theorem m1_run {r : V → List V → Hp → VK → Prop} {g : DV → DV → Option DV} (hd : MtD X r g) {s : L2.St} {H : Hp} {Q : VK} (h : tD X.K X.mg E (dM1 g da db) s H Q) : tM1 r (tD X.K X.mg E da) (tD X.K X.mg E db) s H Q := by
  obtain ⟨Hb, ρ, F0, Fr, σ, h, R, x, k⟩ := h
  refine ⟨Hb, ρ, F0, Fr, σ, h, R, x, (Rz.bind k).imp (fun wa h1 k => ?_) fun _ _ z => z⟩
  obtain ⟨hs, k⟩ := Rz.chk k
  intro Hb1 ρ1 H1 v1 s1 p1 R1 r1
  refine ⟨?_, Hb1, ρ1, F0, Fr, σ, h1, R1, x.mono s1 p1, (Rz.bind k).imp (fun wb h2 k => ?_) (Pex.back s1 p1)⟩
  · cases wa with
    | str z => exact ⟨z, str_of r1⟩
    | _ => cases hs
  obtain ⟨w, eg, k⟩ := Rz.ofO k
  intro Hb2 ρ2 H2 v2 s2 p2 R2 r2
  exact hd Hb2 ρ2 Fr h2 H2 v1 v2 wa wb w Q R2 (r1.mono s2 p2 (Same.refl _)) r2 eg (Pst.back (s1.trans s2) (p1.trans p2) _ _ k)
theorem se_join (ho : SE X E o da) (he : SE X E e db) (hs : starEach [e] X.env = [(false, eval e X.env)] := by rfl) (hbase : attributeBase o "join" X.env (eval o X.env) = eval o X.env := by rfl) (hline : (apos.endLine == pos.line) = true := by rfl) :
    SE X E (.Call (.Attribute o "join" apos) [e] [] pos) (dM1 gJoin da db) := (pe_join ho he hs hbase hline).weak fun s H Q h => m1_run (fun Hb ρ Fr h H x y a b w Q R rx ry e k => by
    cases a with
    | str z =>
      obtain ⟨ws, e1, e⟩ := Option.bind_eq_some_iff.mp (show (seqOf b).bind _ = some w from e)
      obtain ⟨ys, e2, e⟩ := Option.bind_eq_some_iff.mp e
      by_cases hc : (ys.map (·.length)).sum + ys.length * z.length ≤ 100000
      · rw [if_pos hc] at e
        cases e
        obtain ⟨p, xs, ex, hq, rr⟩ := seq_of R ry e1
        have := strsOf_rep rr e2
        subst this
        exact ⟨z, p, ys, str_of rx, by rw [ex], hq, Nat.le_trans hc (by decide), Pst.same R k (.per (.str _))⟩
      · rw [if_neg hc] at e; cases e
    | _ => cases e) h
theorem se_split (ho : SE X E o da) (he : SE X E e db) (hs : starEach [e] X.env = [(false, eval e X.env)] := by rfl) (hbase : attributeBase o "split" X.env (eval o X.env) = eval o X.env := by rfl) (hline : (apos.endLine == pos.line) = true := by rfl) :
    SE X E (.Call (.Attribute o "split" apos) [e] [] pos) (dM1 gSplit da db) := (pe_split ho he hs hbase hline).weak fun s H Q h => m1_run (fun Hb ρ Fr h H x y a b w Q R rx ry e k => by
    cases a with
    | str z =>
      cases b with
      | str t =>
        have e : (if (t.length == 0) = false ∧ z.length + 2 ≤ 100000 then some (DV.lst ((Txt.split z t).map .str)) else none) = some w := e
        by_cases hc : (t.length == 0) = false ∧ z.length + 2 ≤ 100000
        · rw [if_pos hc] at e
          cases e
          refine ⟨z, t, str_of rx, by rw [str_of ry], hc.1, Nat.le_trans hc.2 (by decide), fun p hp => Pst.lst R k ?_ p hp⟩
          generalize Txt.split z t = L
          induction L with
          | nil => exact .nil
          | cons u L ih => exact .cons (.str u) ih
        · rw [if_neg hc] at e; cases e
      | _ => cases e
    | _ => cases e) h
theorem se_find (ho : SE X E o da) (he : SE X E e db) (hs : starEach [e] X.env = [(false, eval e X.env)] := by rfl) (hbase : attributeBase o "find" X.env (eval o X.env) = eval o X.env := by rfl) (hline : (apos.endLine == pos.line) = true := by rfl) :
    SE X E (.Call (.Attribute o "find" apos) [e] [] pos) (dM1 gFind da db) := (pe_m1 F.slot_str_find F.type_str_find mt_find ho he hs hbase hline).weak fun s H Q h => m1_run (fun Hb ρ Fr h H x y a b w Q R rx ry e k => by
    cases a with
    | str z =>
      cases b with
      | str t => cases e; exact ⟨z, t, str_of rx, by rw [str_of ry], Pst.same R k (.per (.int _))⟩
      | _ => cases e
    | _ => cases e) h
theorem se_itemS (ha : SE X E a da) (hb : SE X E b db) (hs : PlainIx b) : SE X E (.Subscript a b pos) (dOp gIxS da db) :=
  se_ix ix_str (fun Hb ρ Fr h H x y a b w Q R rx ry e k => by
    cases a with
    | str z =>
      cases b with
      | int i =>
        have e : (if z.length ≤ 100000 then (atI z.cps.toList i).map fun c => DV.str ⟨#[c]⟩ else none) = some w := e
        by_cases hc : z.length ≤ 100000
        · rw [if_pos hc] at e
          obtain ⟨c, e1, e⟩ := Option.map_eq_some_iff.mp e
          subst e
          exact ⟨z, i, c, str_of rx, int_of ry, Nat.le_trans hc (by decide), e1, Pst.same R k (.per (.str _))⟩
        · rw [if_neg hc] at e; cases e
      | _ => cases e
    | _ => cases e) ha hb hs
theorem se_str_c {x z : Str} (hg : Gl X x) (hm : ∃ t, X.mg x = some (.str z t)) (hd : (x == ("__debug__" : Str)) = false := by decide) : SE X E (.Name x pos) (dC (.str z)) := by
  obtain ⟨t, ht⟩ := hm
  exact se_c (v := .str z) (pe_glob hg ht ⟨_, rfl⟩ hd) fun _ _ => .str z
def dFmt2 (m : Str) (da db : DE) : DE := fun σ h => (da σ h).bind fun a h1 => (chk (match a with | .int i => decide (0 ≤ i ∧ i ≤ 9) | _ => false)) ((db σ h1).bind fun b h2 => match a, b with
  | .int i, .int j => if 0 ≤ j ∧ j ≤ 9 then .ok (.str (Str.empty ++ toString i ++ m ++ toString j)) h2 else .bad
  | _, _ => .bad)
theorem small_text (j : Int) (h : 0 ≤ j ∧ j ≤ 9) : j.natAbs.log2 < 1920 ∧ (toString j : Str).length ≤ 10 := by
  rcases (show j = 0 ∨ j = 1 ∨ j = 2 ∨ j = 3 ∨ j = 4 ∨ j = 5 ∨ j = 6 ∨ j = 7 ∨ j = 8 ∨ j = 9 by omega) with rfl | rfl | rfl | rfl | rfl | rfl | rfl | rfl | rfl | rfl <;> decide +kernel
theorem se_fmt2 {m : Str} {p1 p2 p3 p4 : Pos} {j : Nat} (ha : SE X E a da) (hb : SE X E b db) (hm : m.length ≤ 1000 := by decide +kernel) :
    SE X E (.JoinedStr [.FormattedValue a (-1) none p1, .Constant (.str m) j p2, .FormattedValue b (-1) none p3] p4) (dFmt2 m da db) :=
  (pe_joined (.cons (pe_fmt ha) (.cons pe_str (.cons (pe_fmt hb) .nil)))).weak fun s H Q ⟨Hb, ρ, F0, Fr, σ, h, R, x, k⟩ => by
  have hs : sizeLine = 2 ^ 24 := rfl
  refine ⟨Hb, ρ, F0, Fr, σ, h, R, x, (Rz.bind k).imp (fun wa h1 k => ?_) fun _ _ z => z⟩
  obtain ⟨hi, k⟩ := Rz.chk k
  intro Hb1 ρ1 H1 v1 s1 p1 R1 r1
  cases wa with
  | int i =>
    have hi := of_decide_eq_true hi
    obtain ⟨l1, l2⟩ := small_text i hi
    have e0 : (Str.empty ++ (toString i : Str)).length ≤ 10 := by rw [Str.length_append]; show 0 + _ ≤ _; omega
    refine .inr ⟨i, int_of r1, l1, _, rfl, by omega, _, rfl, by rw [Str.length_append]; omega, ?_⟩
    refine ⟨Hb1, ρ1, F0, Fr, σ, h1, R1, x.mono s1 p1, (Rz.bind k).imp (fun wb h2 k => ?_) (Pex.back s1 p1)⟩
    intro Hb2 ρ2 H2 v2 s2 p2 R2 r2
    cases wb with
    | int j =>
      have k : Rz (Pst X.K Hb ρ Fr Q) (Pex X.K X.mg Hb ρ Fr (E s)) (if 0 ≤ j ∧ j ≤ 9 then .ok (.str (Str.empty ++ toString i ++ m ++ toString j)) h2 else .bad) := k
      by_cases hj : 0 ≤ j ∧ j ≤ 9
      · rw [if_pos hj] at k
        obtain ⟨m1, m2⟩ := small_text j hj
        exact .inr ⟨j, int_of r2, m1, _, rfl, by rw [Str.length_append, Str.length_append]; omega, k Hb2 ρ2 H2 _ (s1.trans s2) (p1.trans p2) R2 (.per (.str _))⟩
      · rw [if_neg hj] at k; exact k.elim
    | _ => exact k.elim
  | _ => cases hi
@[simp] theorem dM1_ap (g : DV → DV → Option DV) {σ : DSt} {h : DH} : dM1 g da db σ h = (da σ h).bind fun a h1 => chk (strB a) ((db σ h1).bind fun b h2 => ofO (g a b) h2) := nrfl rfl
@[simp] theorem strB_str (z : Str) : strB (.str z) = true := nrfl rfl
end
end DL
namespace DL
open PySem PySem.Spec PyProof.Rows L2
theorem tuple_mul0 (l : Addr) (items : Array Value) (n : Nat) (dd : Option Addr) (sl : Array (Option Value)) (u : Tok) (hi : items.isEmpty = false) :
    Meets (Builtin.«tuple.__mul__» ⟨[.ref l, .int 0 u], []⟩) (fun _ R s => s.heap.get? l = some { cls := .type "tuple", dict := dd, data := .seq items n, slots := sl } ∧ R (.ok (.ret (Value.ref s.heap.objs.size))) { s with heap := s.heap.push { cls := Value.type "tuple", data := Data.seq #[] } }) :=
  .of_wp fun prog w A R s h => by
    obtain ⟨hp, g, d, tk, os⟩ := s
    obtain ⟨hl, h⟩ := h
    have f1 := AutoSeq1.idx_int
    have c1 : (items.isEmpty || (0 : Int) == 1) = false := by rw [hi]; rfl
    wp_walk using wpAny_loadPart' hl
    repeat (first
      | (refine wpAny_ite_false (decide_eq_false (by rw [c1]; exact Bool.false_ne_true)) ?_; wp_walk using wpAny_loadPart' hl))
    exact ⟨_, rfl, h⟩
def rRep0 (K : PySem.W.Frag) : R2 := fun x y H Q => ∃ l xs, x = .ref l ∧ y = .int 0 ∧ SqT K H l xs ∧ xs ≠ [] ∧ ∀ p, H p = none → Q (.ref p) (upd H p (.tup []))
section
variable {X : Cx}
theorem op_rep0 : OpR X (binaryOp .Mult) (rRep0 X.K) := by
  intro pins s σ H x y v u Q I rx ry h
  obtain ⟨l, xs, rfl, rfl, hT, hne, q⟩ := h
  cases rx
  obtain ⟨t, rfl⟩ := ry
  obtain ⟨its, r, ⟨⟨cls, dd, data, sl⟩, ho, hc, n, hd⟩, hs⟩ := I.tuple hT
  simp only at hc hd
  subst hc hd
  have hi : its.toArray.isEmpty = false := by
    cases its with
    | nil => cases r; exact absurd rfl hne
    | cons a b => rfl
  refine wpAny_binaryOp_repeat_ref (T := "tuple") (U := "int") (by decide) ⟨_, ho, rfl⟩ (fun s' => typeIs_int s' 0 t) noFill_tuple_mul F.fills_int_mul F.slot_int_rmul repeat_tuple F.slot_int_index.lookup ?_
  refine call_meets F.slot_int_rmul (typeIs_int s 0 t) F.entry_int_rmul (F.args_int_rmul_2 _ _) (int_rmul_tuple 0 t l its.toArray n dd sl) ⟨ho, rfl, ⟨_, ho, rfl⟩, ?_⟩
  refine call_meets F.slot_tuple_mul ⟨_, ho, rfl⟩ F.entry_tuple_mul (F.args_tuple_mul_2 _ _) (tuple_mul0 l its.toArray n dd sl t hi) ⟨ho, ?_⟩
  refine ⟨.ref s.heap.objs.size, _, I.laid (t' := s.toks) (o := .tup []) (fun b ob q => Heap.get?_push_of_some _ q) (Nat.le_refl _) ?_, rfl, q _ (I.hok.fresh (Nat.le_refl _))⟩
  exact ⟨Nat.zero_le _, [], .nil, IsTup.new _ _⟩
def gRep0 : DV → DV → Option DV
  | .tup ws, .int k => if k = 0 ∧ ws ≠ [] then some (.tup []) else none
  | _, _ => none
theorem od_rep0 : OpD X (rRep0 X.K) gRep0 := fun Hb ρ Fr h H x y a b w Q R rx ry e k => by
  unfold gRep0 at e
  split at e
  · rename_i ws j
    by_cases hc : j = 0 ∧ ws ≠ []
    · rw [if_pos hc] at e
      cases e
      obtain ⟨rfl, hn⟩ := hc
      obtain ⟨p, xs, e1, h1, r1⟩ := tup_of R rx
      subst e1
      exact ⟨p, xs, rfl, int_of ry, h1, (fun z => by subst z; cases r1; exact hn rfl), fun q hq => Pst.tup R k .nil q hq⟩
    · rw [if_neg hc] at e; cases e
  · cases e
def gMulZ : DV → DV → Option DV := gOr gRep0 gMulT
theorem omulZ : ∃ r, OpR X (binaryOp .Mult) r ∧ OpD X r gMulZ := by
  obtain ⟨r, h1, h2⟩ := omulT (X := X)
  exact ⟨_, op_rep0.or h1, od_or od_rep0 h2⟩
end
section
variable {X : Cx} {E : L2.St → XK} {a b : Expr} {pos : Pos} {da db : DE}
theorem se_mulZ (ha : SE X E a da) (hb : SE X E b db) : SE X E (.BinOp a .Mult b pos) (dOp gMulZ da db) := by
  obtain ⟨r, h1, h2⟩ := omulZ (X := X)
  exact se_op h1 h2 ha hb
end
end DL
namespace DL
open PySem PySem.Spec PyProof.Rows L2
theorem isInt_tok {k : Int} {v : Value} (h : Value.isInt k v = true) : ∃ t, v = .int k t := by
  cases v with
  | int i t => exact ⟨t, by rw [beq_iff_eq.mp (show (i == k) = true from h)]⟩
  | _ => cases h
theorem lit_at : ∀ {es : List DictEntry} {kvs : List (Int × Int)}, intLit es kvs = true → es.length = kvs.length ∧ ∀ (i : Nat) (e : DictEntry), es[i]? = some e → ∃ k v t, kvs[i]? = some (k, v) ∧ e.key = .int k t
  | [], [], _ => ⟨rfl, fun i e h => by cases h⟩
  | [], _ :: _, h => by cases h
  | _ :: _, [], h => by cases h
  | e :: es, (k, v) :: r, h => by
    have h : (Value.isInt k e.key && decide (e.hash = hashInt k) && Value.isInt v e.val && intLit es r) = true := h
    simp only [Bool.and_eq_true] at h
    obtain ⟨l, ih⟩ := lit_at h.2
    refine ⟨by rw [List.length_cons, List.length_cons, l], fun i u hu => ?_⟩
    cases i with
    | zero =>
      cases hu
      obtain ⟨t, ht⟩ := isInt_tok h.1.1.1
      exact ⟨k, v, t, rfl, ht⟩
    | succ i => exact ih i u hu
def Itw (kvs : List (Int × Int)) : It := ⟨fun i _ => i < kvs.length, fun i H x H' => H' = H ∧ ∃ k v, kvs[i]? = some (k, v) ∧ x = .int k, fun i _ => kvs.length ≤ i⟩
section
variable {P : Program} {w : World} {K : PySem.W.Frag} {tg : Expr} {d : Addr} {es : Array DictEntry} {ep : Nat} {kvs : List (Int × Int)}
theorem turn_kw (it : Addr) (hl : K.lookup d = some ⟨.type "dict", none, .dict es ep, #[]⟩) (hi : intLit es.toList kvs = true) : Turn P w K tg (Itw kvs) [it] it (fun i h => h.IsKeyIter it d i es.size ep) where
  mem := by simp
  obj := fun i h st b hb => by
    have e : b = it := by simpa using hb
    subst e
    obtain ⟨oi, e, c, dd⟩ := st
    exact ⟨oi, e, fun v z => by rw [dd] at z; cases z⟩
  keep := fun i h h' st k => st.at fun oi e => k it (by simp) oi e
  item := by
    intro X hP hw hK hc i pins s σ H E I hf st hg
    subst hP hw hK
    obtain ⟨f0, f1, f2, f3, f4, f5⟩ := hf it (by simp)
    obtain ⟨l, at_⟩ := lit_at hi
    have hs : i < es.size := by rw [← Array.length_toList, l]; exact hg
    obtain ⟨k, v, t, hk, ek⟩ := at_ i es[i] (by rw [Array.getElem?_toList]; exact Array.getElem?_eq_getElem hs)
    refine wpAny_pyNext_keys_item_raw st ⟨_, I.kIn _ _ hl, ⟨rfl, rfl, rfl⟩, rfl⟩ hs fun h' st' sb => ?_
    have I1 : Inv X pins σ H { s with heap := h' } := I.turned (t' := s.toks) (fun b ob hb e => (sb.2 b hb).trans e) f0 f1 f3 f4 f5
    obtain ⟨oi, e, c, dd⟩ := id st'
    exact ⟨es[i].key, rfl, go_of (s := { s with heap := h' }) e c dd (by decide) ⟨.int k, H, I1, ⟨t, ek⟩, ⟨rfl, k, v, hk, rfl⟩, st', fun b hb => (hf b hb).1⟩⟩
  done := by
    intro X hP hw hK hc i pins s σ H E I hf st hg
    subst hP hw hK
    obtain ⟨f0, f1, f2, f3, f4, f5⟩ := hf it (by simp)
    obtain ⟨l, _⟩ := lit_at hi
    have hs : es.size ≤ i := by rw [← Array.length_toList, l]; exact hg
    exact next_key_end (I.ok.hd hc) st (I.kIn _ _ hl) rfl rfl hs fun h' eb => ⟨rfl, I.turned (t' := s.toks) (fun b ob hb e => eb b ob hb e) f0 f1 f3 f4 f5⟩
  self := fun A i s Q E st h => wpAny_pyIter_keyiter st h
end
theorem src_kw {K : PySem.W.Frag} (kvs : List (Int × Int)) : Src K (Itw kvs) (kvs.map fun p => .int p.1) (fun _ _ _ => True) where
  mono := fun _ _ _ _ _ _ _ z => z
  stop := fun _ _ _ _ _ _ _ _ _ => by show kvs.length ≤ _; rw [List.length_map]; exact Nat.le_refl _
  go := fun Hb ρ G Fr h H i w _ _ R e => by
    rw [List.getElem?_map] at e
    cases eq : kvs[i]? with
    | none => rw [eq] at e; cases e
    | some p =>
      rw [eq] at e
      cases e
      refine ⟨(List.getElem?_eq_some_iff.mp eq).1, fun x H' y => ?_⟩
      obtain ⟨rfl, k, v, hk, rfl⟩ := y
      rw [eq] at hk
      cases hk
      exact ⟨Hb, Same.refl _, R, .int _⟩
def dKeysW (kvs : List (Int × Int)) : DA := fun _ h => .ok (kvs.map fun p => .int p.1) h
def dChars (d : DE) : DA := fun σ h => (d σ h).bind fun w h1 => match w with
  | .str z => .ok (z.cps.toList.map fun c => .str ⟨#[c]⟩) h1
  | _ => .bad
theorem src_chars {K : PySem.W.Frag} (z : Str) : Src K (Its z) (z.cps.toList.map fun c => .str ⟨#[c]⟩) (fun _ _ _ => True) where
  mono := fun _ _ _ _ _ _ _ z => z
  stop := fun _ _ _ _ _ _ _ _ _ => by show z.cps.size ≤ _; rw [List.length_map, Array.length_toList]; exact Nat.le_refl _
  go := fun Hb ρ G Fr h H i w _ _ R e => by
    rw [List.getElem?_map, Array.getElem?_toList] at e
    cases eq : z.cps[i]? with
    | none => rw [eq] at e; cases e
    | some p =>
      rw [eq] at e
      cases e
      refine ⟨(Array.getElem?_eq_some_iff.mp eq).1, fun x H' y => ?_⟩
      obtain ⟨rfl, c, hc, rfl⟩ := y
      rw [eq] at hc
      cases hc
      exact ⟨Hb, Same.refl _, R, .str _⟩
section
variable {X : Cx} {E : L2.St → XK} {c : Bool} {tg e : Expr} {pos : Pos} {d : DE} {D : Addr} {x : Str} {kvs : List (Int × Int)}
theorem si_keysW (hk : KDI X.K D kvs) (hg : Gl X x) (hm : X.mg x = some (.ref D)) (hd : (x == ("__debug__" : Str)) = false := by decide) : SI X E c tg (.Name x pos) (dKeysW kvs) := by
  refine ⟨fun pins s σ H R I h => ?_⟩
  obtain ⟨Hb, ρ, F0, Fr, dσ, hh, Rr, x', k⟩ := h
  have q := k Hb ρ H _ _ (Same.refl _) (List.prefix_refl _) Rr (src_kw kvs) trivial
  refine thn ((pe_glob hg hm (v := .ref D) rfl hd).run pins s σ H (fun v H1 => v = .ref D ∧ R (Itw kvs) H1) I ⟨rfl, q⟩) fun u s1 ⟨y, H1, I1, ry, ey, q⟩ => ?_
  subst ey
  cases ry
  obtain ⟨es, n, hl, hi⟩ := hk.at_
  exact iter_keys hk.low (I1.kIn _ _ hl) ⟨rfl, rfl, rfl⟩ rfl (pi_one (tk := s1.toks) I1 _ (turn_kw _ hl hi) ⟨_, Heap.get?_push_size _ rfl, rfl, rfl⟩ q)
theorem si_chars (he : SE X E e d) : SI X E c tg e (dChars d) := (pi_str he).weak fun s H Rr ⟨Hb, ρ, F0, Fr, σ, h, R, x, k⟩ => by
  refine ⟨Hb, ρ, F0, Fr, σ, h, R, x, (Rz.bind k).imp (fun w h1 k => ?_) fun _ _ z => z⟩
  intro Hb1 ρ1 H1 v s1 p1 R1 r1
  cases w with
  | str z => exact ⟨z, str_of r1, k Hb1 ρ1 H1 _ _ s1 p1 R1 (src_chars z) trivial⟩
  | _ => exact k.elim
@[simp] theorem dKeysW_ap {σ : DSt} {h : DH} : dKeysW kvs σ h = .ok (kvs.map fun p => .int p.1) h := nrfl rfl
@[simp] theorem dChars_ap {σ : DSt} {h : DH} : dChars d σ h = (d σ h).bind fun w h1 => match w with
  | .str z => .ok (z.cps.toList.map fun c => .str ⟨#[c]⟩) h1
  | _ => .bad := nrfl rfl
end
end DL
namespace DL
open PySem PySem.Spec PyProof.Rows L2
def gStrI : List DV → DH → Option DV := g1 fun w _ => match w with
  | .int i => if 0 ≤ i ∧ i ≤ 9 then some (.str (toString i)) else none
  | _ => none
theorem se_strI {X : Cx} {E : L2.St → XK} {e : Expr} {pos p : Pos} {da : DA} (hg : Gl X "str") (hm : X.mg "str" = none) (ha : SA X E [e] da)
    (hs : starEach [e] X.env = (false, eval e X.env) :: starEach [] X.env := by rfl) : SE X E (.Call (.Name "str" p) [e] [] pos) (dFn gStrI da) :=
  se_callTy call_str_int (cd1 fun Hb ρ Fr h H x a w Q R r1 e k => by
    cases a with
    | int i =>
      have e : (if 0 ≤ i ∧ i ≤ 9 then some (DV.str (toString i)) else none) = some w := e
      by_cases hc : 0 ≤ i ∧ i ≤ 9
      · rw [if_pos hc] at e
        cases e
        exact ⟨i, by rw [int_of r1], (small_text i hc).1, Pst.same R k (.per (.str _))⟩
      · rw [if_neg hc] at e; cases e
    | _ => cases e) hg hm (by decide +kernel) ha (by decide) (by decide) hs rfl
def repS (z : Str) (k : Int) : Str := if (k == 1 || z.length == 0) = true then z else ⟨(List.replicate k.toNat z.cps).foldl (· ++ ·) #[]⟩
def gMulS : DV → DV → Option DV
  | .str z, .int k => if 1 ≤ k ∧ k ≤ 9 ∧ z.length ≤ 10 ∧ (repS z k).length ≤ 1000 then some (.str (repS z k)) else none
  | _, _ => none
def rMulS : R2 := fun x y H Q => ∃ z k, x = .str z ∧ y = .int k ∧ 1 ≤ k ∧ k ≤ 9 ∧ z.length ≤ 10 ∧ (repS z k).length ≤ 1000 ∧ Q (.str (repS z k)) H
section
variable {X : Cx}
theorem op_mulS : OpR X (binaryOp .Mult) rMulS := by
  intro pins s σ H x y v u Q I rx ry h
  obtain ⟨z, k, rfl, rfl, h1, h2, h3, h4, q⟩ := h
  obtain ⟨t, rfl⟩ := rx
  obtain ⟨t', rfl⟩ := ry
  have hz : sizeLine = 2 ^ 24 := rfl
  refine PySem.P.mul_str (by rw [decide_eq_false (by omega), decide_eq_false (by omega)]; rfl) (fun _ _ => ?_) (fun _ _ => ?_) ?_
  · have a1 : (1000 : Int) ≤ (2 ^ 63 - 1) / k := by
      rw [Int.le_ediv_iff_mul_le (by omega)]
      omega
    omega
  · unfold Builtin.Str.tooLong
    have : z.length * k.toNat ≤ 10 * 9 := Nat.mul_le_mul h3 (by omega)
    exact decide_eq_false (by omega)
  · rw [if_neg (by omega)]
    unfold repS at q h4
    by_cases c : (k == 1 || z.length == 0) = true
    · rw [if_pos c] at q ⊢
      exact ⟨.str z, H, I, ⟨t, rfl⟩, q⟩
    · rw [if_neg c] at q h4 ⊢
      exact ⟨by omega, .str _, H, I.tok _, ⟨_, rfl⟩, q⟩
theorem se_mulS {E : L2.St → XK} {a b : Expr} {pos : Pos} {da db : DE} (ha : SE X E a da) (hb : SE X E b db) : SE X E (.BinOp a .Mult b pos) (dOp gMulS da db) :=
  se_op op_mulS (fun Hb ρ Fr h H x y a b w Q R rx ry e k => by
    unfold gMulS at e
    split at e
    · rename_i z i
      by_cases hc : 1 ≤ i ∧ i ≤ 9 ∧ z.length ≤ 10 ∧ (repS z i).length ≤ 1000
      · rw [if_pos hc] at e
        cases e
        exact ⟨z, i, str_of rx, int_of ry, hc.1, hc.2.1, hc.2.2.1, hc.2.2.2, Pst.same R k (.per (.str _))⟩
      · rw [if_neg hc] at e; cases e
    · cases e) ha hb
end
def dRepl (y z : Str) (d : DE) : DE := fun σ h => (d σ h).bind fun w h1 => match w with
  | .str x => if x.length + (x.length + 1) * z.length ≤ 100000 then .ok (.str (Txt.replace x y z)) h1 else .bad
  | _ => .bad
abbrev SET (X : Cx) (E : L2.St → XK) (e : Expr) (d : DE) : Prop := PET X e (tD X.K X.mg E d)
abbrev SAT (X : Cx) (E : L2.St → XK) (es : List Expr) (d : DA) : Prop := PAT X es (tDs X.K X.mg E d)
section
variable {X : Cx} {E : L2.St → XK} {o e : Expr} {es : List Expr} {d : DE} {dr : DA} {y z : Str} {j k : Nat} {c0 c1 apos pos p : Pos}
theorem set_repl (ho : SE X E o d) (hyz : (y == z) = false := by decide)
    (hst : starEach [.Constant (.str y) j c0, .Constant (.str z) k c1] X.env = [(false, eval (.Constant (.str y) j c0) X.env), (false, eval (.Constant (.str z) k c1) X.env)] := by rfl)
    (hbase : attributeBase o "replace" X.env (eval o X.env) = eval o X.env := by rfl) (hline : (apos.endLine == pos.line) = true := by rfl) :
    SET X E (.Call (.Attribute o "replace" apos) [.Constant (.str y) j c0, .Constant (.str z) k c1] [] pos) (dRepl y z d) := fun pins s σ H Q h0 I ⟨Hb, ρ, F0, Fr, dσ, h, R, x, k⟩ => by
  refine CwR.pet_replC ho hyz hst hbase hline pins s σ H Q h0 I ⟨Hb, ρ, F0, Fr, dσ, h, R, x, (Rz.bind k).imp (fun w h1 k => ?_) fun _ _ z => z⟩
  intro Hb1 ρ1 H1 v s1 p1 R1 r1
  cases w with
  | str u =>
    have k : Rz (Pst X.K Hb ρ Fr Q) (Pex X.K X.mg Hb ρ Fr (E σ)) (if u.length + (u.length + 1) * z.length ≤ 100000 then .ok (.str (Txt.replace u y z)) h1 else .bad) := k
    by_cases hc : u.length + (u.length + 1) * z.length ≤ 100000
    · rw [if_pos hc] at k
      exact ⟨u, str_of r1, Nat.le_trans hc (by decide), k Hb1 ρ1 H1 _ s1 p1 R1 (.per (.str _))⟩
    · rw [if_neg hc] at k; exact k.elim
  | _ => exact k.elim
theorem SET.of (h : SE X E e d) : SET X E e d := fun pins s σ H Q _ I q => h.run pins s σ H Q I q
theorem sat_nil : SAT X E [] daNil := fun pos pins s σ H Q _ I q => sa_nil.run pos pins s σ H Q I q
theorem da_split {s : L2.St} {H : Hp} {Q : List V → Hp → Prop} (h : tDs X.K X.mg E (daCons d dr) s H Q) : tD X.K X.mg E d s H fun x H1 => tDs X.K X.mg E dr s H1 fun xs H2 => Q (x :: xs) H2 := by
  obtain ⟨Hb, ρ, F0, Fr, σ, h, R, x, k⟩ := h
  refine ⟨Hb, ρ, F0, Fr, σ, h, R, x, (Rz.bind k).imp (fun wa h1 k => ?_) fun _ _ z => z⟩
  intro Hb1 ρ1 H1 v1 s1 p1 R1 r1
  refine ⟨Hb1, ρ1, F0, Fr, σ, h1, R1, x.mono s1 p1, (Rz.bind k).imp (fun ws h2 k => ?_) (Pex.back s1 p1)⟩
  intro Hb2 ρ2 H2 vs2 s2 p2 R2 r2
  exact k Hb2 ρ2 H2 _ (s1.trans s2) (p1.trans p2) R2 (.cons (r1.mono s2 p2 (Same.refl _)) r2)
theorem sat_cons (ha : SET X E e d) (hr : SAT X E es dr) (hs : starEach (e :: es) X.env = (false, eval e X.env) :: starEach es X.env := by rfl) : SAT X E (e :: es) (daCons d dr) := fun pos pins s σ H Q h0 I q => by
  rw [hs]
  show wpAny _ _ (spliced ((false, eval e X.env) :: backTo pos (starEach es X.env))) _ _ s
  refine Calls.spliced_cons (wpAny_mono (PySem.wpAny_toks (ha pins s σ H _ h0 I (da_split q))) (fun v s1 z => ?_) fun _ _ z => z.2)
  obtain ⟨hk, x, H1, I1, r1, q1⟩ := z
  exact thn (hr pos pins s1 σ H1 _ (Nat.le_trans h0 hk) I1 q1) fun us s2 ⟨xs, H2, I2, r2, q2⟩ => ⟨x :: xs, H2, I2, .cons r1 r2, q2⟩
theorem sa_consS {x : Str} (hr : SAT X E es dr) (hs : starEach (.Constant (.str x) j p :: es) X.env = (false, eval (.Constant (.str x) j p) X.env) :: starEach es X.env := by rfl) : SA X E (.Constant (.str x) j p :: es) (daCons (dC (.str x)) dr) := ⟨fun pos pins s σ H Q I q => by
  rw [hs]
  show wpAny _ _ (spliced ((false, eval (.Constant (.str x) j p) X.env) :: backTo pos (starEach es X.env))) _ _ s
  refine Calls.spliced_cons (Calls.Constant_str ?_)
  have q1 := da_split q
  obtain ⟨Hb, ρ, F0, Fr, dσ, h, R, x', k⟩ := q1
  have q2 := k Hb ρ H (.str x) (Same.refl _) (List.prefix_refl _) R (.per (.str x))
  exact thn (hr pos pins { s with toks := s.toks + 1 } σ H _ (by show 1 ≤ s.toks + 1; omega) (I.tok _) q2) fun us s2 ⟨xs, H2, I2, r2, q2⟩ => ⟨.str x :: xs, H2, I2, .cons ⟨_, rfl⟩ r2, q2⟩⟩
@[simp] theorem dRepl_ap {σ : DSt} {h : DH} : dRepl y z d σ h = (d σ h).bind fun w h1 => match w with
  | .str x => if x.length + (x.length + 1) * z.length ≤ 100000 then .ok (.str (Txt.replace x y z)) h1 else .bad
  | _ => .bad := nrfl rfl
end
end DL
namespace DL
open PySem PySem.Spec PySem.W PyProof.Rows L2
def dAsgB (n : Nat) (t : TFs) (d : DE) : DS := fun σ h => (d σ h).bind fun w h1 => match w with
  | .brw ws => if ws.length = n then (ofO (t ws σ) h1).bind fun σ' h2 => .ok (.next σ') h2 else .bad
  | _ => .bad
section
variable {X : Cx} {E : XK} {e tg : Expr} {pos : Pos} {d : DE}
theorem ss_asgB {n : Nat} {gs : TGs} {u : TFs} (he : SE X (cE E) e d) (hg : PG X tg (gLst X.K n gs)) (hs' : GDs X.K gs u) (hs : swapsWithSole [tg] e pos.line X.env = pure false := by rfl) (hw : swappedStores [tg] e X.env = pure none := by rfl)
    (h1 : (assignEach [tg] X.env).map (·.2) = [assign tg X.env] := by rfl) : SS X E (.Assign [tg] e pos) (dAsgB n u d) := (ps_asg he hg hs hw h1).weak fun D s H k =>
  tS_ex (f := fun w σ h1 => match w with
    | .brw ws => if ws.length = n then (ofO (u ws σ) h1).bind fun σ' h2 => .ok (.next σ') h2 else .bad
    | _ => .bad) k fun w Hb ρ F0 Fr σ h H x R sl r k => by
    cases w with
    | brw ws =>
      obtain ⟨a, xs, rfl, hq, rr⟩ := brw_of R r
      by_cases hn : ws.length = n
      · have k : Rz _ _ (if ws.length = n then (ofO (u ws σ) h).bind fun σ' h2 => Res.ok (Fl.next σ') h2 else .bad) := k
        rw [if_pos hn] at k
        obtain ⟨σ', e', k⟩ := Rz.ofO (Rz.bind k)
        exact ⟨_, _, rfl, hq, rr.length.trans hn, hs' Hb ρ F0 Fr σ σ' s h H _ _ _ R sl rr e' fun s' x' => k Hb ρ Fr H s' (Same.refl _) (List.prefix_refl _) R x'⟩
      · have k : Rz _ _ (if ws.length = n then (ofO (u ws σ) h).bind fun σ' h2 => Res.ok (Fl.next σ') h2 else .bad) := k
        rw [if_neg hn] at k
        exact False.elim k
    | _ => exact False.elim k
end
section
variable {n : Nat} {t : TFs} {d : DE} {σ : DSt} {h : DH}
@[simp] theorem dAsgB_ap : dAsgB n t d σ h = (d σ h).bind fun w h1 => match w with
  | .brw ws => if ws.length = n then (ofO (t ws σ) h1).bind fun σ' h2 => .ok (.next σ') h2 else .bad
  | _ => .bad := nrfl rfl
end
end DL
namespace DL
open PySem PySem.Spec PyProof.Rows L2
def tB (K : PySem.W.Frag) (mg : Str → Option Value) (E : L2.St → XK) (d : DE) : TS := fun D s H => ∃ (Hb : Hp) (ρ : List Addr) (F0 Fr : Hp) (σ : DSt) (h : DH), Rel K Hb ρ Fr h H ∧ Slots K Hb ρ F0 Fr σ s ∧
  Rz (Prt K Hb ρ F0 D.rt) (fun c h' => ∀ s' : L2.St, s'.length = s.length → Pex K mg Hb ρ F0 (E s') c h') (d σ h)
abbrev SB (X : Cx) (E : L2.St → XK) (sts : List Stmt) (d : DE) : Prop := PSs X sts (tB X.K X.mg E d)
def dRv (d : DE) : DE := fun σ h => (d σ h).bind fun v h1 => chk (held v) (.ok v h1)
def dIfB (c a b : DE) : DE := fun σ h => (c σ h).bind fun w h1 => brB w (a σ h1) (b σ h1)
def dLetB (j : Nat) (d r : DE) : DE := fun σ h => (d σ h).bind fun v h1 => chk (held v) (r (setS j v σ) h1)
def dAt (i : Nat) (d : DE) : DE := fun σ h => chk (decide (i < σ.length)) (d σ h)
def Ind (j : Nat) (d : DE) : Prop := ∀ v σ h, d (setS j v σ) h = d σ h
def IndA (j : Nat) (d : DA) : Prop := ∀ v σ h, d (setS j v σ) h = d σ h
theorem ind_var {i j : Nat} (h : j ≠ i) : Ind j (dVar i) := fun v σ h' => by
  unfold dVar getS setS
  rw [List.getElem?_set_ne h]
theorem ind_c {j : Nat} {w : DV} : Ind j (dC w) := fun _ _ _ => rfl
theorem ind_op {j : Nat} {g : DV → DV → Option DV} {a b : DE} (ha : Ind j a) (hb : Ind j b) : Ind j (dOp g a b) := fun v σ h => by
  unfold dOp
  rw [ha]
  congr 1
  funext w h1
  rw [hb]
theorem ind_nil {j : Nat} : IndA j daNil := fun _ _ _ => rfl
theorem ind_cons {j : Nat} {a : DE} {b : DA} (ha : Ind j a) (hb : IndA j b) : IndA j (daCons a b) := fun v σ h => by
  unfold daCons
  rw [ha]
  congr 1
  funext w h1
  rw [hb]
section
variable {X : Cx} {E : L2.St → XK} {c e : Expr} {d d1 d2 dc r : DE} {pos p : Pos} {body rest : List Stmt}
theorem sb_ret (he : SE X E e d) : SB X E [.Return (some e) pos] (dRv d) := (pss_one (ps_ret he)).weak fun D s H ⟨Hb, ρ, F0, Fr, σ, h, R, x, k⟩ => by
  refine ⟨Hb, ρ, F0, Fr, σ, h, R, x, (Rz.bind k).imp (fun v h1 k => ?_) fun c h1 q => Pex.lift x.fr c h1 (q s rfl)⟩
  obtain ⟨hv, k⟩ := Rz.chk k
  exact fun Hb' ρ' H' u a b R' r' => k Hb' ρ' H' u a b (R'.weak x.fr) (r'.held hv)
theorem sb_if (hc : ST X E c dc) (h1 : SB X E body d1) (h2 : SB X E rest d2) : SB X E (.If c body [] pos :: rest) (dIfB dc d1 d2) := (pss_cons (ps_if hc h1 pss_nil) h2).weak fun D s H ⟨Hb, ρ, F0, Fr, σ, h, R, x, k⟩ => by
  refine ⟨Hb, ρ, F0, Fr, σ, h, R, x, (Rz.bind k).imp (fun w h1 k => ?_) fun c h1 q => Pex.lift x.fr c h1 (q s rfl)⟩
  rcases Rz.brB k with ⟨ew, k⟩ | ⟨ew, k⟩
  · exact ⟨true, ew, fun Hb' ρ' H' s1 p1 R1 => iteT ⟨Hb', ρ', F0, Fr, σ, h1, R1, x.mono s1 p1, k.imp (fun w h q Hb2 ρ2 H2 u a2 b2 R2 r2 => q Hb2 ρ2 H2 u (s1.trans a2) (p1.trans b2) R2 r2) fun c h q s' e => Pex.back s1 p1 c h (q s' e)⟩⟩
  · exact ⟨false, ew, fun Hb' ρ' H' s1 p1 R1 => iteF ⟨Hb', ρ', F0, Fr, σ, h1, R1, x.mono s1 p1, k.imp (fun w h q Hb2 ρ2 H2 u a2 b2 R2 r2 => q Hb2 ρ2 H2 u (s1.trans a2) (p1.trans b2) R2 r2) fun c h q s' e => Pex.back s1 p1 c h (q s' e)⟩⟩
theorem sb_set {j : Nat} {x : Str} {pos' : Pos} (h : PS X (.Assign [.Name x pos'] e pos) (tAsg (tD X.K X.mg E d) (gName j))) (hr : SB X E rest r) : SB X E (.Assign [.Name x pos'] e pos :: rest) (dLetB j d r) := (pss_cons h hr).weak fun D s H ⟨Hb, ρ, F0, Fr, σ, h, R, x, k⟩ => by
  refine ⟨Hb, ρ, F0, Fr, σ, h, R, x, (Rz.bind k).imp (fun w h1 k => ?_) fun c h1 q => Pex.lift x.fr c h1 (q s rfl)⟩
  obtain ⟨hv, k⟩ := Rz.chk k
  exact fun Hb' ρ' H' u s1 p1 R1 r1 => ⟨Hb', ρ', F0, Fr, _, h1, R1, slots_set (x.mono s1 p1) (r1.held hv), k.imp (fun w h q Hb2 ρ2 H2 u a2 b2 R2 r2 => q Hb2 ρ2 H2 u (s1.trans a2) (p1.trans b2) R2 r2) fun c h q s' e => Pex.back s1 p1 c h (q s' (e.trans (List.length_set ..)))⟩
theorem sb_pick {j n i : Nat} {x : Str} {names : List Expr} {Fs : List Fn} {ie e : Expr} {es : List Expr} {lp sp np np' pos p5 p6 : Pos} {di : DE} {dr : DA} (hN : X.N.Nodup) (hi' : X.N[i]? = some x) (hx' : Loc X.env.scope x) (pv : PE X (.Name x np) (tVar i)) (hp : Picks X E j n names Fs) (hr : Room j X.A) (hx : ∀ σ, PassesAt (L2.CX X.prog X.w) X σ (E σ)) (hi : SE X E ie di) (hpi : PlainIx ie) (ha : SA X E (e :: es) dr) (ni : Ind i di) (na : IndA i dr) (hl : Fs.length ≤ 100 := by decide)
    (hf : X.fn x = true ∨ X.env.scope.names.lookup x = some .local := by first | exact .inl rfl | exact .inr rfl | assumption)
    (hsw : swapsWith (.List names lp) (some (.Name x np')) p5.line X.env = pure false := by rfl)
    (he : starEach (e :: es) X.env = (false, eval e X.env) :: starEach es X.env := by rfl) (hpl : (backTo pos (starEach es X.env)).any (·.1) = false := by rfl)
    (hc : eval (.Call (.Subscript (.Name x np) ie sp) (e :: es) [] pos) X.env = (do callWith pos (← eval (.Subscript (.Name x np) ie sp) X.env) [] (backTo pos (starEach (e :: es) X.env)) (backToKw pos (keywordEach [] X.env))) := by rfl) :
    SB X E [.Assign [.Name x np'] (.List names lp) p5, .Return (some (.Call (.Subscript (.Name x np) ie sp) (e :: es) [] pos)) p6] (dRv (dAt i (dPick n Fs di dr))) := by
  obtain ⟨fs, a, l, o⟩ := hp
  have s1 : PS X (.Assign [.Name x np'] (.List names lp) p5) (tAsg (tD X.K X.mg E (dLst (consA fs))) (gName i)) := ps_set hN hi' hx' (se_lst (pos := lp) a) hsw hf
  have s2 := ps_ret (pos := p6) (pe_callE (k := j) (se_item (pos := sp) (se_var (E := E) pv) hi hpi) hr hx ha he hpl hc)
  refine (pss_cons s1 (pss_one s2)).weak fun D s H ⟨Hb, ρ, F0, Fr, σ, h, R, x, k⟩ => ?_
  have eL : dLst (consA fs) σ h = .ok (.lst (fs.map fun f => DV.con (.ref f))) h := by
    unfold dLst
    rw [consA_ap]
    show chk (heldAll _) (chk (le_cap (fs.map fun f => DV.con (.ref f)).length) _) = _
    rw [heldAll_refs, List.length_map, show le_cap fs.length = true from decide_eq_true (by show fs.length ≤ 100000; omega)]
    rfl
  obtain ⟨hlt', k⟩ := Rz.chk (Rz.bind k)
  have hlt' := of_decide_eq_true hlt'
  refine ⟨Hb, ρ, F0, Fr, σ, h, R, x, ?_⟩
  rw [eL]
  intro Hb1 ρ1 H1 v1 s1 p1 R1 r1
  have hv : held (.lst (fs.map fun f => DV.con (.ref f))) = true := rfl
  have x1 := slots_set (i := i) (x.mono s1 p1) (r1.held hv)
  refine ⟨Hb1, ρ1, F0, Fr, setS i (.lst (fs.map fun f => DV.con (.ref f))) σ, h, R1, x1, ?_⟩
  have eg : getS (setS i (.lst (fs.map fun f => DV.con (.ref f))) σ) i = some (.lst (fs.map fun f => DV.con (.ref f))) := by
    unfold getS setS
    rw [List.getElem?_set_self hlt']
  show Rz _ _ ((ofO (getS _ i) h).bind fun a h1 => (di _ h1).bind fun b h2 => ofO (gIx a b) h2)
  rw [eg]
  show Rz _ _ ((di (setS i _ σ) h).bind _)
  rw [ni]
  show Rz _ _ ((di σ h).bind fun b h2 => ofO (gIx (.lst (fs.map fun f => DV.con (.ref f))) b) h2)
  refine Rz.mk ((Rz.bind k).imp (fun w h1 k => ?_) fun c h1 q => Pex.back s1 p1 c h1 (Pex.lift x.fr c h1 (q _ (List.length_set ..))))
  obtain ⟨F, eF, kz⟩ := Rz.ofO (Rz.bind k)
  unfold pickF at eF
  split at eF
  · rename_i i0
    by_cases h0 : 0 ≤ i0
    · rw [if_pos h0] at eF
      have hlt : i0.toNat < fs.length := by rw [l]; exact (List.getElem?_eq_some_iff.mp eF).1
      obtain ⟨f, ef⟩ : ∃ f, fs[i0.toNat]? = some f := ⟨_, List.getElem?_eq_getElem hlt⟩
      obtain ⟨k0, fd, ps, hj, hF, h3, h4⟩ := (o i0.toNat f F ef eF).ex
      have eg : gIx (.lst (fs.map fun f => DV.con (.ref f))) (.int i0) = some (.con (.ref f)) := by
        show atI (fs.map fun f => DV.con (.ref f)) i0 = _
        unfold atI ixN
        rw [List.length_map, if_pos h0, if_pos (by omega)]
        show (fs.map fun f => DV.con (.ref f))[i0.toNat]? = _
        rw [List.getElem?_map, ef]
        rfl
      rw [eg]
      intro Hb2 ρ2 H2 v2 s2 p2 R2 r2
      have ev : v2 = .ref f := by
        cases r2 with
        | per r2 => cases r2; rfl
      refine ⟨f, fd, ps, _, ev, hF.mono hj, h3, h4, dcall_run ⟨Hb2, ρ2, F0, Fr, setS i (.lst (fs.map fun f => DV.con (.ref f))) σ, _, R2, x1.mono s2 p2, ?_⟩⟩
      have ed : dCall n F dr (setS i (.lst (fs.map fun f => DV.con (.ref f))) σ) h1 = dCall n F dr σ h1 := by
        unfold dCall
        rw [na]
      rw [ed]
      refine Rz.imp kz (fun w h2 q => ?_) fun c h2 q => Pex.back (s1.trans s2) (p1.trans p2) c h2 (Pex.lift x.fr c h2 (q _ (List.length_set ..)))
      obtain ⟨hv, q⟩ := Rz.chk q
      exact fun Hb' ρ' H' u a b R' r' => q Hb' ρ' H' u ((s1.trans s2).trans a) ((p1.trans p2).trans b) (R'.weak x.fr) (r'.held hv)
    · rw [if_neg h0] at eF; cases eF
  · cases eF
end
section
variable {X : Cx} {E : XK}
theorem ss_tryB {k j i : Nat} {d : DE} {body : List Stmt} {xc n wn : Str} {B : Addr} {tb : List (Str × DV)} {np p2 p3 p4 p5 p6 pos : Pos} (hs : X.stack = X.env :: X.outer) (hf : X.env.frame = some X.env.locals) (hN : X.N.Nodup) (hi : X.N[i]? = some n) (hln : X.env.kindOf n = some .local) (hc : Names X xc (.ref B)) (tk : Takes X (fun c d _ H => E c d H))
    (hr : Room j X.A) (hj : k ≤ j) (hT : ∀ q ∈ tb, Tells X.prog X.w X.K X.mg X.base k wn B q.1 q.2) (hg : Gl X wn) (hdb : (wn == ("__debug__" : Str)) = false) (hn1 : (n == ("__debug__" : Str)) = false) (hn2 : (n == ("__classdict__" : Str)) = false)
    (he : ∀ (pn : List (Addr × Obj)) (xe : Value → Shared → Prop) (E' : L2.St → XK), (∀ σ, PassesAt (L2.CX X.prog X.w) (X.tr pn xe) σ (E' σ)) → SB (X.tr pn xe) E' body d) :
    SS X E (.Try body [.ExceptHandler (some (.Name xc np)) (some n) [.Return (some (.Call (.Name wn p2) [.Name n p3] [] p4)) p5] p6] [] [] pos) (dTry i tb d) := by
  refine (ps_try_as (i := i) (tb := fun W D σ H => tB X.K X.mg (WE W) d D σ H) (ts := fun a cls dd D σ H => dd = none ∧ ∃ (c : Str) (v : DV), tb.lookup c = some v ∧ X.mg c = some cls ∧ σ[i]? = some (some (.ref a)) ∧ spV X.K v a [.ref a] H D.rt E0) hs hf hN hi hln hc tk ?_ ?_).weak ?_
  · intro W pn xe tk' _
    exact he pn xe (WE W) (passAt (X := X.tr pn xe) tk')
  · intro a oe cls dd pn hz hd
    refine ⟨fun pins s σ H D I h => ?_⟩
    obtain ⟨rfl, c, v, hl, hm, hsl, sp⟩ := h
    obtain ⟨C, f, fd, ps, e1, e2, F, e3, e4, e5⟩ := (hT (c, v) (lookup_mem hl)).ex
    have ec : cls = .ref C := by
      have e1' : X.mg c = some (.ref C) := e1
      rw [hm] at e1'
      exact Option.some.inj e1'
    subst ec
    have pv : PE (X.suite a ((a, oe) :: pn)) (.Name n p3) (tVar i) := pe_var (X := X.suite a ((a, oe) :: pn)) hi (.inl hln) hn1 hn2
    exact (pss_one (ps_ret (pe_which (X := X.suite a ((a, oe) :: pn)) (E := fun _ => E0) F (roomH_suite (hr.mono hj) a _) List.mem_cons_self hz hd hg e3 e4 e5 lets0 (pa_cons pv pa_nil) hdb))).run pins s σ H D I ⟨_, hsl, rfl, sp⟩
  · intro D s H ⟨Hb, ρ, F0, Fr, σ, h, R, x, k⟩
    refine ⟨Hb, ρ, F0, Fr, σ, h, R, x, ?_⟩
    unfold dTry at k
    cases ed : d σ h with
    | ok v h1 =>
      rw [ed] at k
      obtain ⟨hv, k⟩ := Rz.chk k
      exact k
    | exc c h1 =>
      rw [ed] at k
      have k : Rz (PFl X.K Hb ρ F0 D) (Pex X.K X.mg Hb ρ F0 E) (match tb.lookup c with | some w => chk (decide (i < σ.length)) (.ok (.ret w) h1) | none => .bad) := k
      cases el : tb.lookup c with
      | none => rw [el] at k; exact k.elim
      | some w =>
        rw [el] at k
        obtain ⟨hlt, k⟩ := Rz.chk k
        obtain ⟨C, f, fd, ps, e1, e2, _, _, _, _⟩ := (hT (c, w) (lookup_mem el)).ex
        intro s' es'
        refine ⟨.ref C, e1, fun Hb' ρ' H' a b R' => ⟨true, e2, fun _ t ht => ⟨rfl, c, w, el, e1, ?_, Hb', ρ', F0, h1, R', fun Hb2 ρ2 H2 u a2 b2 R2 r2 => k Hb2 ρ2 H2 u (a.trans a2) (b.trans b2) R2 r2⟩, fun z => nomatch z⟩⟩
        rw [List.getElem?_set_self (by rw [es', ← x.len]; exact of_decide_eq_true hlt)]
    | bad => rw [ed] at k; exact k.elim
end
end DL
namespace DL
open PySem PySem.Spec PySem.W PyProof.Rows L2
def rCatB (K : PySem.W.Frag) : R2 := fun x y H Q => ∃ l b xs zs, x = .ref l ∧ y = .ref b ∧ SqL K H l xs ∧ SqL K H b zs ∧ xs.length + zs.length ≤ sizeLine ∧ ∀ p, H p = none → Q (.ref p) (upd H p (.lst (xs ++ zs)))
def gAddB : DV → DV → Option DV
  | .brw ws, .lst zs => if ws.length + zs.length ≤ cap then some (.lst (ws ++ zs)) else none
  | _, _ => none
section
variable {X : Cx}
theorem op_catB : OpR X (binaryOp .Add) (rCatB X.K) := by
  intro pins s σ H x y v u Q I rx ry h
  obtain ⟨l, b, xs, zs, rfl, rfl, hH, hB, hz, q⟩ := h
  cases rx
  cases ry
  obtain ⟨its, r, ⟨⟨cls, dd, data, sl⟩, n, ho, hc, hdd, hd⟩, _⟩ := I.list hH
  obtain ⟨its2, r2, ⟨⟨cls2, dd2, data2, sl2⟩, n2, ho2, hc2, hdd2, hd2⟩, _⟩ := I.list hB
  simp only at hc hd hc2 hd2 hdd hdd2
  subst hc hd hc2 hd2 hdd hdd2
  have e : its.toArray ++ its2.toArray = (its ++ its2).toArray := by simp
  refine concat_meets ⟨_, ho, rfl⟩ ⟨_, ho2, rfl⟩ noFill_list_add seq_list_add PySem.F.slot_list_add PySem.F.entry_list_add (PySem.F.args_list_add_2 _ _) (list_addW l b its.toArray its2.toArray n n2 none none sl sl2 (by have := r.length; have := r2.length; simp; omega)) ⟨ho, ho2, ?_⟩
  rw [e]
  exact ⟨.ref _, _, I.lnew (t' := s.toks) (r.append r2) (by rw [List.length_append]; omega), rfl, q _ I.fresh⟩
theorem od_addB : OpD X (rCatB X.K) gAddB := fun Hb ρ Fr h H x y a b w Q R rx ry e k => by
  unfold gAddB at e
  split at e
  · rename_i ws zs
    by_cases hc : ws.length + zs.length ≤ cap
    · rw [if_pos hc] at e
      cases e
      obtain ⟨p, xs, e1, h1, r1⟩ := brw_of R rx
      obtain ⟨q, ys, e2, h2, r2⟩ := lst_of R ry
      exact ⟨p, q, xs, ys, e1, e2, h1, SqL.of h2, by rw [r1.length, r2.length]; exact cap_le hc, fun c hp => Pst.lst R k (r1.append r2) c hp⟩
    · rw [if_neg hc] at e; cases e
  · cases e
end
section
variable {X : Cx} {E : L2.St → XK} {a b : Expr} {pos : Pos} {da db : DE}
theorem se_addB (ha : SE X E a da) (hb : SE X E b db) : SE X E (.BinOp a .Add b pos) (dOp gAddB da db) := se_op op_catB od_addB ha hb
end
end DL
namespace DL
open PySem PySem.Spec PyProof.Rows L2
section
variable {K : PySem.W.Frag} {Hb : Hp} {ρ : List Addr} {Fr H : Hp} {h : DH}
theorem cell_lent {D : Addr} {acc : List V} {ds : List DV} (R : Rel K Hb ρ (upd Fr D (.lst acc)) h H) (hF : Fr D = none) (rd : Reps K Hb ρ acc ds) : Rel K Hb (ρ ++ [D]) Fr (h ++ [.lst ds]) H := by
  have pre : ρ <+: ρ ++ [D] := List.prefix_append _ _
  have g2 : Same Fr (upd Fr D (.lst acc)) := same_lend hF
  have get : ∀ {n : Nat} {a : Addr}, (ρ ++ [D])[n]? = some a → (ρ[n]? = some a ∧ n < ρ.length) ∨ (n = ρ.length ∧ a = D) := fun {n a} e => by
    by_cases hl : n < ρ.length
    · rw [List.getElem?_append_left hl] at e; exact .inl ⟨e, hl⟩
    · rw [List.getElem?_append_right (by omega)] at e
      have hn : n - ρ.length < 1 := (List.getElem?_eq_some_iff.mp e).1
      have : n - ρ.length = 0 := by omega
      rw [this] at e
      cases e
      exact .inr ⟨by omega, rfl⟩
  have ne : ∀ {n : Nat} {a : Addr}, ρ[n]? = some a → a ≠ D := fun {n a} e z => by
    have := (R.out n a e).2
    subst z
    rw [upd_same] at this; cases this
  refine ⟨R.sub, fun b o q => R.fr b o (g2 b o q), fun b o q => R.ap b o (g2 b o q), by rw [List.length_append, List.length_append, R.len]; rfl, fun n a c e1 e2 => ?_, fun n a e => ?_, fun n m a e1 e2 => ?_, fun b o q => R.ft b o (g2 b o q)⟩
  · rcases get e1 with ⟨e1, hl⟩ | ⟨hn, rfl⟩
    · rw [List.getElem?_append_left (by rw [← R.len]; exact hl)] at e2
      exact (R.cell n a c e1 e2).mono (Same.refl _) pre
    · rw [List.getElem?_append_right (by rw [hn, R.len]; exact Nat.le_refl _), hn, R.len, Nat.sub_self] at e2
      cases e2
      exact ⟨acc, R.fr _ _ upd_same, rd.mono (Same.refl _) pre⟩
  · rcases get e with ⟨e1, hl⟩ | ⟨hn, rfl⟩
    · have z := R.out n a e1
      have z2 := z.2
      rw [upd_ne (ne e1)] at z2
      exact ⟨z.1, z2⟩
    · exact ⟨R.ap _ _ upd_same, hF⟩
  · rcases get e1 with ⟨f1, _⟩ | ⟨h1, z1⟩
    · rcases get e2 with ⟨f2, _⟩ | ⟨h2, z2⟩
      · exact R.inj n m a f1 f2
      · exact absurd z2 (ne f1)
    · rcases get e2 with ⟨f2, _⟩ | ⟨h2, z2⟩
      · exact absurd z1 (ne f2)
      · omega
end
def mkC : DV → DH → Res DV
  | .lst ws, h => .ok (.ref h.length) (h ++ [.lst ws])
  | _, _ => .bad
def dCompC (src : DA) (tf : TF) (dt de : DE) (vs : List Nat) : DE := fun σ h => (src σ h).bind fun ws h1 => chk (le_cap ws.length) ((noX (loopC tf dt de (wipeD σ vs) ws h1)).bind fun rs h2 => .ok (.ref h2.length) (h2 ++ [.lst rs]))
section
theorem comp_runC {K : PySem.W.Frag} {mg : Str → Option Value} {E : L2.St → XK} {src : DA} {tf : TF} {dt de : DE} {g : TG} {vs : List Nat} (hg : GC K g tf vs) {s : L2.St} {H : Hp} {Q : VK} (k : tD K mg E (dCompC src tf dt de vs) s H Q) :
    tLc (tI K mg E true src) g (tT K mg (fun _ => E0) dt) (tD K mg (fun _ => E0) de) vs s H Q := by
  obtain ⟨Hb, ρ, F0, Fr, σ, h, R, x, k⟩ := k
  refine ⟨Hb, ρ, F0, Fr, σ, h, R, x, (Rz.bind k).imp (fun ws h1 k => ?_) fun _ _ z => z⟩
  obtain ⟨hz, k⟩ := Rz.chk k
  have k := Rz.noX (ex' := fun _ _ => False) ((Rz.bind k).imp (fun _ _ z => z) (fun _ _ z => z))
  have hz : ws.length ≤ cap := of_decide_eq_true hz
  intro Hb1 ρ1 H1 J Iv s1 p1 R1 S iv D hD
  rw [if_pos rfl] at iv
  have hF : Fr D = none := R1.fr_fresh hD
  refine ⟨fun i m H => m = ws.length - i ∧ i ≤ ws.length ∧ ∃ (Hb2 : Hp) (ρ2 : List Addr) (h : DH) (acc : List V) (ds : List DV), Same Hb1 Hb2 ∧ ρ1 <+: ρ2 ∧ Rel K Hb2 ρ2 (upd Fr D (.lst acc)) h H ∧ Hb2 D = none ∧ Reps K Hb2 ρ2 acc ds ∧ acc.length ≤ i ∧
      Rz (fun rs h' => Pst K Hb ρ Fr Q (.ref h'.length) (h' ++ [.lst (ds ++ rs)])) (fun _ _ => False) (loopC tf dt de (wipeD σ vs) (ws.drop i) h),
    ⟨ws.length, rfl, Nat.zero_le _, Hb1, ρ1, h1, [], [], Same.refl _, List.prefix_refl _, R1.lend hD (.lst []), R1.hb_fresh hD, .nil, Nat.zero_le _, by rw [List.drop_zero]; exact k⟩, ?_⟩
  rintro i m H2 ⟨rfl, hi, Hb2, ρ2, h2, acc, ds, s2, p2, R2, hD2, rd, hacc, k2⟩
  have iv2 : Iv Hb2 ρ2 Fr := S.mono _ _ _ _ _ s2 p2 iv
  have g2 : Same Fr (upd Fr D (.lst acc)) := same_lend hF
  by_cases hlt : i < ws.length
  · have hw : ws[i]? = some ws[i] := List.getElem?_eq_getElem hlt
    obtain ⟨hgo, hyl⟩ := S.go Hb2 ρ2 Fr _ h2 H2 i ws[i] iv2 g2 R2 hw
    refine .inr ⟨hgo, fun H' => i + 1 ≤ ws.length ∧ ∃ (Hb2 : Hp) (ρ2 : List Addr) (h : DH) (acc : List V) (ds : List DV), Same Hb1 Hb2 ∧ ρ1 <+: ρ2 ∧ Rel K Hb2 ρ2 (upd Fr D (.lst acc)) h H' ∧ Hb2 D = none ∧ Reps K Hb2 ρ2 acc ds ∧ acc.length ≤ i + 1 ∧
      Rz (fun rs h' => Pst K Hb ρ Fr Q (.ref h'.length) (h' ++ [.lst (ds ++ rs)])) (fun _ _ => False) (loopC tf dt de (wipeD σ vs) (ws.drop (i + 1)) h), fun H' z => ⟨ws.length - (i + 1), by omega, rfl, z⟩, fun v H3 y => ?_⟩
    obtain ⟨Hb3, s3, R3, r3⟩ := hyl v H3 y
    rw [List.drop_eq_getElem_cons hlt] at k2
    obtain ⟨σ', et, k2⟩ := Rz.ofO (Rz.bind k2)
    have k2 := Rz.bind k2
    have x3 : Slots K Hb3 ρ2 F0 (upd Fr D (.lst acc)) (wipeD σ vs) (wipe s vs) := slots_frame g2 ((slots_wipe ((x.mono s1 p1).mono (s2.trans s3) p2) vs))
    refine hg Hb3 ρ2 F0 _ _ σ' _ h2 H3 v ws[i] _ R3 x3 r3 et fun s' x' ew => ⟨ew.trans (wipe_idem fun _ z => z), ?_⟩
    refine ⟨Hb3, ρ2, F0, _, σ', h2, R3, x', k2.imp (fun b h3 k => ?_) fun _ _ z => z.elim⟩
    rcases Rz.brB k with ⟨eb, k⟩ | ⟨eb, k⟩
    · refine ⟨true, eb, fun Hb4 ρ4 H4 s4 p4 R4 => iteT ?_⟩
      refine ⟨Hb4, ρ4, F0, _, σ', h3, R4, x'.mono s4 p4, (Rz.bind k).imp (fun xw h4 k => ?_) fun _ _ z => z.elim⟩
      obtain ⟨hx, k⟩ := Rz.chk k
      intro Hb5 ρ5 H5 yv s5 p5 R5 r5
      have hD5 : Hb5 D = none := R5.ap D _ upd_same
      have r5' := r5.held hx
      refine ⟨acc, R5.fr D _ upd_same, cap_lt (by omega), hlt, Hb5, ρ5, h4, acc ++ [yv], ds ++ [xw], ((s2.trans s3).trans s4).trans s5, (p2.trans p4).trans p5, ?_, hD5, ?_, by rw [List.length_append]; exact Nat.succ_le_succ hacc, (Rz.bind k).imp (fun rs h5 k => ?_) fun _ _ z => z⟩
      · have := R5.write (p := D) upd_same (.lst (acc ++ [yv]))
        rw [upd_upd] at this
        exact this
      · exact ((rd.mono ((s3.trans s4).trans s5) (p4.trans p5))).append (.one r5')
      · rw [List.append_assoc]; exact k
    · refine ⟨false, eb, fun Hb4 ρ4 H4 s4 p4 R4 => iteF ?_⟩
      exact ⟨hlt, Hb4, ρ4, h3, acc, ds, (s2.trans s3).trans s4, p2.trans p4, R4, R4.ap D _ upd_same, rd.mono (s3.trans s4) p4, Nat.le_succ_of_le hacc, k⟩
  · have e : i = ws.length := by omega
    subst e
    refine .inl ⟨S.stop Hb2 ρ2 Fr _ h2 H2 iv2 g2 R2, ?_⟩
    rw [List.drop_length] at k2
    have k2 : Pst K Hb ρ Fr Q (.ref h2.length) (h2 ++ [.lst (ds ++ [])]) := k2
    rw [List.append_nil] at k2
    have eD : (ρ2 ++ [D])[h2.length]? = some D := by rw [← R2.len, List.getElem?_append_right (Nat.le_refl _), Nat.sub_self]; rfl
    exact k2 Hb2 (ρ2 ++ [D]) H2 (.ref D) (s1.trans s2) ((p1.trans p2).trans (List.prefix_append _ _)) (cell_lent R2 hF rd) (.per (.ref eD))
end
theorem catL_inv : ∀ {wa wb w : DV}, gCatL wa wb = some w → ∃ ws zs, wa = .lst ws ∧ wb = .lst zs ∧ ws.length + zs.length ≤ cap ∧ w = .lst (ws ++ zs) := fun {wa wb w} eg => by
  unfold gCatL at eg
  split at eg
  · rename_i ws zs
    by_cases hc : ws.length + zs.length ≤ cap
    · rw [if_pos hc] at eg; exact ⟨_, _, rfl, rfl, hc, (Option.some.inj eg).symm⟩
    · rw [if_neg hc] at eg; cases eg
  · cases eg
def dSortC (da : DA) : DE := fun σ h => (da σ h).bind fun ws h1 => (ofO (gSorted ws h1) h1).bind mkC
def dCatC (da db : DE) : DE := fun σ h => (da σ h).bind fun a h1 => (db σ h1).bind fun b h2 => (ofO (gCatL a b) h2).bind mkC
section
variable {X : Cx} {E : L2.St → XK} {a b e : Expr} {pos p : Pos} {da db : DE} {dr : DA}
theorem se_catC (ha : SE X E a da) (hb : SE X E b db) : SE X E (.BinOp a .Add b pos) (dCatC da db) := (pe_op op_cat ha hb).weak fun s H Q ⟨Hb, ρ, F0, Fr, σ, h, R, x, k⟩ => by
  refine ⟨Hb, ρ, F0, Fr, σ, h, R, x, (Rz.bind k).imp (fun wa h1 k => ?_) fun _ _ z => z⟩
  intro Hb1 ρ1 H1 v1 s1 p1 R1 r1
  refine ⟨Hb1, ρ1, F0, Fr, σ, h1, R1, x.mono s1 p1, (Rz.bind k).imp (fun wb h2 k => ?_) (Pex.back s1 p1)⟩
  obtain ⟨w, eg, k⟩ := Rz.ofO (Rz.bind k)
  intro Hb2 ρ2 H2 v2 s2 p2 R2 r2
  obtain ⟨ws, zs, rfl, rfl, hc, rfl⟩ := catL_inv eg
  obtain ⟨p, xs, e1, h1, rr1⟩ := lst_of R2 (r1.mono s2 p2 (Same.refl _))
  obtain ⟨q, ys, e2, h2, rr2⟩ := lst_of R2 r2
  exact ⟨p, q, xs, ys, e1, e2, h1, h2, by rw [rr1.length, rr2.length]; exact cap_le hc, fun c hp => Pst.cell R2 (rr1.append rr2) (s1.trans s2) (p1.trans p2) k c hp⟩
theorem se_compC {elt tg iter : Expr} {ifs : List Expr} {scope : Scope} {own : List (Str × Nat)} {pos : Pos} {src : DA} {g : TG} {tf : TF} {dt de : DE} {vs : List Nat} (hc : X.calm = true) (hN : X.N.Nodup) (hi : SI X E true tg iter src) (ok : BlkOk X.N X.env.scope scope own) (hv : own.map (·.2) = vs)
    (hg : ∀ (s : Shared) (H : Hp) (C : Addr) (cl : List (Str × Addr)) (fp : List Addr), PG (X.blk s H scope (compEnvC scope cl C X.env) fp) tg g) (gc : GC X.K g tf vs)
    (ht : ∀ (s : Shared) (H : Hp) (C : Addr) (cl : List (Str × Addr)) (fp : List Addr), PTs (X.blk s H scope (compEnvC scope cl C X.env) fp) ifs (tT X.K X.mg (fun _ => E0) dt))
    (he : ∀ (s : Shared) (H : Hp) (C : Addr) (cl : List (Str × Addr)) (fp : List Addr), SE (X.blk s H scope (compEnvC scope cl C X.env) fp) (fun _ => E0) elt de) (hs : ∀ x, foldedSetIterable iter X.env x = pure x := by intro _; rfl) :
    SE X E (.ListComp elt [⟨tg, iter, ifs, 0⟩] scope pos) (dCompC src tf dt de vs) := by
  subst hv
  exact (pe_lc hc hN hi ok hg ht he hs).weak fun s H Q k => comp_runC gc k
theorem se_sortC {k0 : Nat} (hr : Room k0 X.A) {x : Str} (hg : Gl X x) (hm : X.mg x = none) (hv : bootBuiltins x = some (.builtin "sorted")) (ha : SA X E [e] dr)
    (hn : x ≠ "__name__" := by decide) (hdb : (x == ("__debug__" : Str)) = false := by decide) (hs : starEach [e] X.env = (false, eval e X.env) :: starEach [] X.env := by rfl) (hpl : (backTo pos (starEach [] X.env)).any (·.1) = false := by rfl) :
    SE X E (.Call (.Name x p) [e] [] pos) (dSortC dr) := (pe_callB (cr_sortedD (by have := hr.un; omega)) hg hm hv ha hn hdb hs hpl).weak fun s H Q ⟨Hb, ρ, F0, Fr, σ, h, R, x, k⟩ => by
  refine ⟨Hb, ρ, F0, Fr, σ, h, R, x, (Rz.bind k).imp (fun ws0 h1 k => ?_) fun _ _ z => z⟩
  obtain ⟨w, eg, k⟩ := Rz.ofO (Rz.bind k)
  intro Hb1 ρ1 H1 vs1 s1 p1 R1 r0
  obtain ⟨w0, ws, ds, rfl, e1, e2, ho, rfl⟩ : ∃ w0 ws ds, ws0 = [w0] ∧ lstOf w0 = some ws ∧ toPys ws = some ds ∧ okSort ds = true ∧ w = .lst (sortD ws ds) := by
    unfold gSorted g1 at eg
    split at eg
    · obtain ⟨ws, e1, e⟩ := Option.bind_eq_some_iff.mp eg
      obtain ⟨ds, e2, e⟩ := Option.bind_eq_some_iff.mp e
      by_cases ho : okSort ds = true
      · rw [if_pos ho] at e
        exact ⟨_, ws, ds, rfl, e1, e2, ho, (Option.some.inj e).symm⟩
      · rw [if_neg ho] at e; cases e
    · cases eg
  obtain ⟨y, rfl, r1⟩ : ∃ y, vs1 = [y] ∧ RepT X.K Hb1 ρ1 Fr y w0 := by
    cases r0 with
    | cons ra rb =>
      cases rb
      exact ⟨_, rfl, ra⟩
  obtain ⟨o1, o2, o3⟩ := okSort_of ho
  obtain ⟨p, ys, ex, hq, rr⟩ := lstR_of R1 r1 e1
  obtain ⟨z1, z2, z3, z4⟩ := zip3_ok rr (dps_of R1 rr e2)
  refine ⟨p, zip3 ys ws ds, by rw [ex], by rw [z1]; exact hq, fun b hb => (z4 b hb).2.1, by rw [z3]; exact o1, by rw [z3]; exact o2, fun b hb => o3 _ (z4 b hb).2.2, fun c hp => Pst.cell R1 ?_ s1 p1 k c hp⟩
  have e3 : sortD ws ds = ((zip3 ys ws ds).mergeSort (PySem.W.dataLe false (·.2.2))).map (·.2.1) := by
    unfold sortD
    rw [← z2, ← PySem.W.sort_maps (r := PySem.W.dataLe false fun b : V × DV × PyData => b.2.2) (fun b : V × DV × PyData => b.2) fun _ _ _ _ => rfl, List.map_map]
    rfl
  rw [e3]
  exact reps_of fun b hb => (z4 b ((List.mergeSort_perm _ _).mem_iff.mp hb)).1
end
end DL
namespace DL
open PySem PySem.Spec PyProof.Rows L2
def getF (σ : DSt) (i : Nat) : Option (List (List Int × DV)) := match σ[i]? with
  | some (.fdt kvs) => some kvs
  | _ => none
def dKeysF (i : Nat) : DA := fun σ h => ofO ((getF σ i).map fun kvs => kvs.map fun e => rT e.1) h
def dGetF (i : Nat) (dk : DE) : DE := fun σ h => (ofO (getF σ i) h).bind fun kvs h => (dk σ h).bind fun w h1 => ofO ((tupI w).bind fun k => valD kvs k) h1
def dForD (i : Nat) (tf : TF) (s1 : DS) : DS := fun σ h => chk (onlyD i σ) ((ofO (getM σ i) h).bind fun m h => match m with
  | .T kvs => dFor (dKeysF i) tf s1 (σ.set i (.fdt kvs)) h
  | _ => .bad)
def tLockF (t : TS) : TS := fun D σ H => ∃ d u, H d = some u ∧ Mut (some u) ∧ ∀ od, t D σ (upd H d (.frz od u))
theorem ps_lockF {X : Cx} {st : Stmt} {t : TS} (h : PS X st t) : PS X st (tLockF t) := ⟨fun pins s σ H D I ⟨d, u, hd, mu, q⟩ => by
  obtain ⟨od, I1⟩ := I.lock hd mu
  exact h.run pins s σ _ D I1 (q od)⟩
section
variable {K : PySem.W.Frag} {Hb : Hp} {ρ : List Addr} {F0 Fr H : Hp} {σ : DSt} {s : L2.St} {h : DH}
theorem slot_fdt (x : Slots K Hb ρ F0 Fr σ s) {i : Nat} {kvs : List (List Int × DV)} (e : getF σ i = some kvs) : ∃ a od l, s[i]? = some (some (.ref a)) ∧ Hb a = some (.frz od (.dT l)) ∧ KvR K Hb ρ kT l kvs := by
  unfold getF at e
  cases eq : σ[i]? with
  | none => rw [eq] at e; cases e
  | some q =>
    rw [eq] at e
    cases q with
    | fdt m => cases e; exact x.at_ i _ eq
    | _ => cases e
theorem kvr_at {κ κ' : Type} {f : κ' → κ} : ∀ {l : List (κ × V)} {m : List (κ' × DV)}, KvR K Hb ρ f l m → ∀ (j : Nat) (k : κ') (w : DV), m[j]? = some (k, w) → ∃ v, l[j]? = some (f k, v)
  | _, _, .nil, j, k, w, e => by simp at e
  | _, _, .cons r t, 0, k, w, e => by
    simp at e
    obtain ⟨rfl, rfl⟩ := e
    exact ⟨_, rfl⟩
  | _, _, .cons r t, j + 1, k, w, e => by
    obtain ⟨v, hv⟩ := kvr_at t j k w (by simpa using e)
    exact ⟨v, by simpa using hv⟩
theorem src_keys {d : Addr} {od : Obj} {l : List (List Key × V)} {kvs : List (List Int × DV)} : Src K (Itkt d od l) (kvs.map fun e => rT e.1) (fun Hb ρ _ => Hb d = some (.frz od (.dT l)) ∧ KvR K Hb ρ kT l kvs) where
  mono := fun Hb Hb' ρ ρ' G s p iv => ⟨s _ _ iv.1, iv.2.mono s p⟩
  stop := fun Hb ρ G Fr h H iv _ R => by
    refine ⟨R.sub _ _ iv.1, ?_⟩
    rw [List.length_map, iv.2.length]
    exact Nat.le_refl _
  go := fun Hb ρ G Fr h H i w iv _ R e => by
    rw [List.getElem?_map] at e
    obtain ⟨⟨k, y⟩, ek, ew⟩ := Option.map_eq_some_iff.mp e
    subst ew
    obtain ⟨v, ev⟩ := kvr_at iv.2 i k y ek
    refine ⟨⟨R.sub _ _ iv.1, (List.getElem?_eq_some_iff.mp ev).1⟩, fun x H' ⟨hH, k', v', q, e1, e2, e3⟩ => ?_⟩
    subst hH e2
    rw [ev] at e1
    cases e1
    rw [kT_kV] at e3
    obtain ⟨Hb', s1, R1, e4⟩ := hold_tup R e3
    exact ⟨Hb', s1, R1, .tup e4 (reps_ints k)⟩
theorem lock_ok (R : Rel K Hb ρ Fr h H) (x : Slots K Hb ρ F0 Fr σ s) {i : Nat} {kvs : List (List Int × DV)} (ho : onlyD i σ = true) {a : Addr} {l : List (List Key × V)} (es : s[i]? = some (some (.ref a))) (fu : Fr a = some (.dT l)) (n0 : F0 a = none) (d : KvR K Hb ρ kT l kvs) (od : Obj) :
    Same Hb (upd Hb a (.frz od (.dT l))) ∧ Rel K (upd Hb a (.frz od (.dT l))) ρ (fun b => if b = a then none else Fr b) h (upd H a (.frz od (.dT l))) ∧ Slots K (upd Hb a (.frz od (.dT l))) ρ F0 (fun b => if b = a then none else Fr b) (σ.set i (.fdt kvs)) s := by
  have hb : Hb a = none := R.ap _ _ fu
  have s1 : Same Hb (upd Hb a (.frz od (.dT l))) := same_lend hb
  have fsub : ∀ b o, (if b = a then none else Fr b) = some o → b ≠ a ∧ Fr b = some o := fun b o q => by
    by_cases e : b = a
    · rw [if_pos e] at q; cases q
    · rw [if_neg e] at q; exact ⟨e, q⟩
  have nρ : ∀ (n : Nat) (c : Addr), ρ[n]? = some c → c ≠ a := fun n c q z => by
    have := (R.out n c q).2
    subst z
    rw [fu] at this; cases this
  refine ⟨s1, ⟨fun b o q => ?_, fun b o q => ?_, fun b o q => ?_, R.len, fun n c c0 e1 e2 => (R.cell n c c0 e1 e2).upd (nρ n c e1) s1 (List.prefix_refl _), fun n c e => ?_, R.inj, fun b o q => R.ft b o (fsub b o q).2⟩, ⟨fun b o q => ?_, fun j q e => ?_, by rw [List.length_set]; exact x.len, fun j k c ws zs e1 e2 e3 e4 => ?_⟩⟩
  · by_cases e : b = a
    · subst e; rw [upd_same] at q ⊢; exact q
    · rw [upd_ne e] at q ⊢; exact R.sub b o q
  · obtain ⟨e, q⟩ := fsub b o q
    rw [upd_ne e]; exact R.fr b o q
  · obtain ⟨e, q⟩ := fsub b o q
    rw [upd_ne e]; exact R.ap b o q
  · obtain ⟨z1, z2⟩ := R.out n c e
    exact ⟨by rw [upd_ne (nρ n c e)]; exact z1, by show (if c = a then none else Fr c) = none; rw [if_neg (nρ n c e)]; exact z2⟩
  · show (if b = a then none else Fr b) = some o
    rw [if_neg (ne_of_none q n0)]; exact x.fr b o q
  · by_cases hij : i = j
    · subst hij
      have hl : i < σ.length := by
        have := (List.getElem?_eq_some_iff.mp e).1
        rwa [List.length_set] at this
      rw [List.getElem?_set_self hl] at e
      cases e
      exact ⟨a, od, l, es, upd_same, d.mono s1 (List.prefix_refl _)⟩
    · rw [List.getElem?_set_ne hij] at e
      have y := x.at_ j q e
      cases q with
      | un => trivial
      | val w => obtain ⟨v, e1, r⟩ := y; exact ⟨v, e1, r.mono s1 (List.prefix_refl _) (Same.refl _)⟩
      | own ws =>
        obtain ⟨c, xs, e1, f1, n1, r⟩ := y
        have hc : c ≠ a := fun z => by subst z; rw [fu] at f1; cases f1
        exact ⟨c, xs, e1, by show (if c = a then none else Fr c) = _; rw [if_neg hc]; exact f1, n1, r.mono s1 (List.prefix_refl _)⟩
      | dct m => exact absurd (onlyD_at ho e) (fun z => hij z.symm)
      | fdt m => obtain ⟨c, od', l', e1, f1, r⟩ := y; exact ⟨c, od', l', e1, s1 _ _ f1, r.mono s1 (List.prefix_refl _)⟩
      | fdx D m => obtain ⟨c, od', l', e1, f1, r⟩ := y; exact ⟨c, od', l', e1, s1 _ _ f1, D.mono s1 r⟩
      | dx D m => exact absurd (onlyD_dx ho e) (fun z => hij z.symm)
  · have f1 : i ≠ j := fun z => by
      subst z
      have hl : i < σ.length := by
        have := (List.getElem?_eq_some_iff.mp e1).1
        rwa [List.length_set] at this
      rw [List.getElem?_set_self hl] at e1; cases e1
    have f2 : i ≠ k := fun z => by
      subst z
      have hl : i < σ.length := by
        have := (List.getElem?_eq_some_iff.mp e2).1
        rwa [List.length_set] at this
      rw [List.getElem?_set_self hl] at e2; cases e2
    rw [List.getElem?_set_ne f1] at e1
    rw [List.getElem?_set_ne f2] at e2
    exact x.sep j k c ws zs e1 e2 e3 e4
end
section
variable {X : Cx} {E : XK} {tg : Expr} {sts : List Stmt} {d1 : DS} {pos : Pos}
theorem si_fdt {E : L2.St → XK} {i : Nat} {x : Str} {p : Pos} (he : PE X (.Name x p) (tVar i)) : SI X E false tg (.Name x p) (dKeysF i) := (pi_keys he).weak fun s H Rr ⟨Hb, ρ, F0, Fr, σ, h, R, x, k⟩ => by
  obtain ⟨ws, ew, k⟩ := Rz.ofO k
  obtain ⟨kvs, ek, e2⟩ := Option.map_eq_some_iff.mp ew
  subst e2
  obtain ⟨a, od, l, es, hb, d⟩ := slot_fdt x ek
  exact ⟨.ref a, es, a, od, rfl, .inr ⟨l, R.sub _ _ hb, k Hb ρ H _ _ (Same.refl _) (List.prefix_refl _) R src_keys ⟨hb, d⟩⟩⟩
theorem ss_forD {i : Nat} {x : Str} {p : Pos} {g : TG} {tf : TF} (hp : PassesOwn (model X.prog X.w) X.A X.env X.xe) (hc : X.calm = true) (he : PE X (.Name x p) (tVar i)) (hg : PG X tg g) (gd : GD X.K g tf) (hb : SSs X E sts d1) (hs : ∀ v, foldedSetIterable (.Name x p) X.env v = pure v := by intro _; rfl) :
    SS X E (.For tg (.Name x p) sts [] pos) (dForD i tf d1) := (ps_lockF (ss_for hp hc (si_fdt he) hg gd hb hs)).weak fun D s H ⟨Hb, ρ, F0, Fr, σ, h, R, x, k⟩ => by
  obtain ⟨ho, k⟩ := Rz.chk k
  obtain ⟨m, em, k⟩ := Rz.ofO (Rz.bind k)
  obtain ⟨_, a, u, es, fu, n0, d⟩ := slot_dct x em
  cases d with
  | I d => exact False.elim k
  | T d =>
    refine ⟨a, _, R.fr _ _ fu, trivial, fun od => ?_⟩
    obtain ⟨s1, R1, x1⟩ := lock_ok R x ho es fu n0 d od
    exact ⟨_, ρ, F0, _, _, h, R1, x1, Rz.imp k (PFl.back s1 (List.prefix_refl _)) (Pex.back s1 (List.prefix_refl _))⟩
theorem se_getF {E : L2.St → XK} {k i : Nat} {o e : Expr} {dk : DE} (hr : Room k X.A) (ho : PE X o (tVar i)) (hk : SE X E e dk) (hs : NoSl e) : SE X E (.Subscript o e pos) (dGetF i dk) :=
  (pe_dget (by have := hr.un; omega) ho hk hs).weak fun s H Q ⟨Hb, ρ, F0, Fr, σ, h, R, x, k⟩ => by
  obtain ⟨kvs, ek, k⟩ := Rz.ofO (Rz.bind k)
  obtain ⟨a, od, l, es, hb, d⟩ := slot_fdt x ek
  refine ⟨.ref a, es, Hb, ρ, F0, Fr, σ, h, R, x, (Rz.bind k).imp (fun w h1 k => ?_) fun _ _ z => z⟩
  intro Hb1 ρ1 H1 y s1 p1 R1 r1
  obtain ⟨z, ez, k⟩ := Rz.ofO k
  obtain ⟨ks, e1, e2⟩ := Option.bind_eq_some_iff.mp ez
  obtain ⟨b, rfl, hbk⟩ := tupI_at R1 r1 e1
  rcases (d.mono s1 p1).val (fun _ _ => kT_inj) ks with ⟨h1, h2⟩ | ⟨v, z', h1, h2, h3⟩
  · rw [h2] at e2; cases e2
  · rw [h2] at e2
    cases e2
    refine ⟨a, v, rfl, .inr ⟨l, kT ks, b, .inr ⟨od, R1.sub _ _ (s1 _ _ hb)⟩, rfl, hbk, h1.symm⟩, ?_⟩
    exact Pst.same R1 (Pst.back s1 p1 _ _ k) (.per h3)
end
section
variable {i : Nat} {tf : TF} {s1 : DS} {dk : DE} {σ : DSt} {h : DH}
@[simp] theorem dForD_ap : dForD i tf s1 σ h = chk (onlyD i σ) ((ofO (getM σ i) h).bind fun m h => match m with
  | .T kvs => dFor (dKeysF i) tf s1 (σ.set i (.fdt kvs)) h
  | _ => .bad) := nrfl rfl
@[simp] theorem dKeysF_ap : dKeysF i σ h = ofO ((getF σ i).map fun kvs => kvs.map fun e => rT e.1) h := nrfl rfl
@[simp] theorem dGetF_ap : dGetF i dk σ h = (ofO (getF σ i) h).bind fun kvs h => (dk σ h).bind fun w h1 => ofO ((tupI w).bind fun k => valD kvs k) h1 := nrfl rfl
end
end DL
namespace DL
open PySem PySem.Spec PyProof.Rows L2
def gNotInT : DV → DV → Option DV
  | .int i, w => (tupI w).map fun xs => .bl (!decide (i ∈ xs))
  | _, _ => none
theorem c_notInT {X : Cx} : Cmp X .NotIn gNotInT := ⟨_, op_notIn_seq, fun Hb ρ Fr h H x y a b w Q R rx ry e k => by
  unfold gNotInT at e
  split at e
  · rename_i i
    obtain ⟨xs, e1, e⟩ := Option.map_eq_some_iff.mp e
    subst e
    unfold tupI at e1
    split at e1
    · obtain ⟨p, vs, ex, hq, rr⟩ := tup_of R ry
      have ev := reps_allI e1 rr
      have exi := int_of rx
      subst exi
      refine ⟨p, vs, ex, .inr hq, rfl, by rw [ev]; exact flat_ints xs, ?_⟩
      rw [ev]
      show Q (.bl (!inV (.int i) (xs.map V.int))) H
      rw [inV_ints]
      exact Pst.same R k (.per (.bl _))
    · cases e1
  · cases e⟩
end DL
namespace DL
open PySem PySem.Spec PyProof.Rows L2
noncomputable section
open Classical in
def getX (D : DX) (σ : DSt) (i : Nat) : Option KN := match σ[i]? with
  | some (.dx D' kvs) => if D' = D then some kvs else none
  | _ => none
open Classical in
def getFX (D : DX) (σ : DSt) (i : Nat) : Option KN := match σ[i]? with
  | some (.fdx D' kvs) => if D' = D then some kvs else none
  | _ => none
def lkK (kvs : KN) (k : List (List Int)) : Option Int := (kvs.find? fun x => decide (x.1 = k)).map (·.2)
def ptK (kvs : KN) (k : List (List Int)) (i : Int) : KN := if (lkK kvs k).isSome then kvs.map fun x => if x.1 = k then (x.1, i) else x else kvs ++ [(k, i)]
def dNewX (D : DX) (i : Nat) : DS := fun σ h => .ok (.next (σ.set i (.dx D []))) h
def dGet2X (D : DX) (i : Nat) (dk dv : DE) : DE := fun σ h => (ofO (getX D σ i) h).bind fun kvs h => (dk σ h).bind fun w h1 => (dv σ h1).bind fun y h2 => ofO ((spI w).map fun k => ((lkK kvs k).map DV.int).getD y) h2
def dPutX (D : DX) (i : Nat) (dv dk : DE) : DS := fun σ h => (dv σ h).bind fun y h1 => chk (onlyD i σ) ((ofO (getX D σ i) h1).bind fun kvs h1 => (dk σ h1).bind fun w h2 => (ofO ((spI w).bind fun k => (asI y).bind fun j => if kvs.length < 1000 then some (ptK kvs k j) else none) h2).bind fun m' h3 => .ok (.next (σ.set i (.dx D m'))) h3)
def dLockX (D : DX) (i : Nat) (d1 : DS) : DS := fun σ h => chk (onlyD i σ) ((ofO (getX D σ i) h).bind fun kvs h => d1 (σ.set i (.fdx D kvs)) h)
def dKeysX (D : DX) (i : Nat) : DA := fun σ h => ofO ((getFX D σ i).map fun kvs => kvs.map fun e => Sp' e.1) h
def dGetX (D : DX) (i : Nat) (dk : DE) : DE := fun σ h => (ofO (getFX D σ i) h).bind fun kvs h => (dk σ h).bind fun w h1 => ofO ((spI w).bind fun k => (lkK kvs k).map DV.int) h1
def dLenX (D : DX) (i : Nat) : DE := fun σ h => ofO ((getFX D σ i).map fun kvs => .int kvs.length) h
end
theorem reps_int_any {K K' : PySem.W.Frag} {H : Hp} {ρ ρ' : List Addr} : ∀ {xs : List V} {ns : List Int}, Reps K H ρ xs (ns.map .int) → Reps K' H ρ' xs (ns.map .int)
  | _, [], h => by cases h; exact .nil
  | _, n :: ns, h => by
    cases h with
    | cons h t => cases h; exact .cons (.int n) (reps_int_any t)
theorem reps_row_any {K K' : PySem.W.Frag} {H : Hp} {ρ ρ' : List Addr} : ∀ {xs : List V} {rs : List (List Int)}, Reps K H ρ xs (rs.map R) → Reps K' H ρ' xs (rs.map R)
  | _, [], h => by cases h; exact .nil
  | _, r :: rs, h => by
    cases h with
    | cons h t =>
      cases h with
      | tup hq r => exact .cons (.tup hq (reps_int_any r)) (reps_row_any t)
theorem rep_sp_any {K K' : PySem.W.Frag} {H : Hp} {ρ ρ' : List Addr} {v : V} {S : List (List Int)} (h : Rep K H ρ v (Sp' S)) : Rep K' H ρ' v (Sp' S) := by
  cases h with
  | tup hq r => exact .tup hq (reps_row_any r)
end DL
namespace SN
open PySem PySem.Spec PyProof.Rows PySem.SeqAt L2 DL
def NBX (P : Program) (w : World) : DX where
  R := fun kvs H a u => ∃ L : LD, u = DBoxO P w a L ∧ (L.map fun x => (x.1.2, x.2)) = (kvs.map fun x => (dSp x.1, x.2)) ∧ ∀ x ∈ L, ∃ S, x.1.2 = dSp S ∧ ∀ (K : PySem.W.Frag) (ρ : List Addr), Rep K H ρ (.ref x.1.1) (Sp' S)
  mono := fun s ⟨L, e, m, k⟩ => ⟨L, e, m, fun x hx => by
    obtain ⟨S, h1, h2⟩ := k x hx
    exact ⟨S, h1, fun K ρ => (h2 K ρ).mono s (List.prefix_refl _)⟩⟩
  no_lst := fun ⟨L, e, _⟩ z => by subst e; exact nomatch z
section
variable {K : PySem.W.Frag} {Hb Fr F0 H : Hp} {ρ : List Addr} {h : DH} {P : Program} {w : World}
theorem ky_ok (R : Rel K Hb ρ Fr h H) {b : Addr} {S : List (List Int)} (r : Rep K Hb ρ (.ref b) (Sp' S)) : KeyOk K H (b, dSp S) :=
  ⟨dp_of R r (enc_sp.py S), okKey_sp S, Nat.le_trans (enc_sp.dep S) (by decide)⟩
theorem spI_back {w : DV} {S : List (List Int)} (e : spI w = some S) : w = Sp' S := by
  cases w with
  | tup us => rw [rowsI_back (show rowsI us = some S from e)]
  | _ => cases e
theorem spI_at {v : V} {w : DV} {S : List (List Int)} (r : RepT K Hb ρ Fr v w) (e : spI w = some S) : ∃ b, v = .ref b ∧ Rep K Hb ρ (.ref b) (Sp' S) := by
  have e1 := spI_back e
  subst e1
  cases r with
  | per r =>
    cases r with
    | tup hq r => exact ⟨_, rfl, .tup hq r⟩
theorem key_iff (S T : List (List Int)) : key (dSp S) = key (dSp T) ↔ S = T :=
  ⟨fun e => dSp_inj (key_inj (okKey_sp S) (okKey_sp T) e), fun e => by rw [e]⟩
theorem lk_eq (k : List (List Int)) : ∀ {L : LD} {kvs : KN}, (L.map fun x => (x.1.2, x.2)) = (kvs.map fun x => (dSp x.1, x.2)) → lkD L (dSp k) = lkK kvs k
  | [], [], _ => rfl
  | [], _ :: _, e => by cases e
  | _ :: _, [], e => by cases e
  | x :: L, y :: kvs, e => by
    rw [List.map_cons, List.map_cons] at e
    injection e with e1 e2
    injection e1 with e1 e3
    have ih := lk_eq k e2
    unfold lkD lkK at ih ⊢
    rw [List.find?_cons, List.find?_cons, e1]
    by_cases c : y.1 = k
    · rw [decide_eq_true ((key_iff y.1 k).mpr c), decide_eq_true c]
      show some x.2 = some y.2
      rw [e3]
    · rw [decide_eq_false fun z => c ((key_iff y.1 k).mp z), decide_eq_false c]
      exact ih
theorem pt_eq (b : Addr) (k : List (List Int)) (i : Int) {L : LD} {kvs : KN} (e : (L.map fun x => (x.1.2, x.2)) = (kvs.map fun x => (dSp x.1, x.2))) : ((ptD L b (dSp k) i).map fun x => (x.1.2, x.2)) = ((ptK kvs k i).map fun x => (dSp x.1, x.2)) := by
  unfold ptD ptK
  rw [lk_eq k e]
  by_cases c : (lkK kvs k).isSome = true
  · rw [if_pos c, if_pos c]
    clear c
    induction L generalizing kvs with
    | nil => cases kvs with
      | nil => rfl
      | cons _ _ => cases e
    | cons x L ih => cases kvs with
      | nil => cases e
      | cons y kvs =>
        rw [List.map_cons, List.map_cons] at e
        injection e with e1 e2
        rw [List.map_cons, List.map_cons, List.map_cons, List.map_cons, ih e2]
        congr 1
        injection e1 with e1 e3
        by_cases c : y.1 = k
        · rw [if_pos c, if_pos (by rw [e1]; exact (key_iff y.1 k).mpr c)]
          show (x.1.2, i) = (dSp y.1, i)
          rw [e1]
        · rw [if_neg c, if_neg (by rw [e1]; exact fun z => c ((key_iff y.1 k).mp z))]
          show (x.1.2, x.2) = (dSp y.1, y.2)
          rw [e1, e3]
  · rw [if_neg c, if_neg c, List.map_append, List.map_append, e]; rfl
theorem pt_mem {L : LD} {b : Addr} {d : PyData} {i : Int} {x : (Addr × PyData) × Int} (h : x ∈ ptD L b d i) : (∃ y ∈ L, y.1 = x.1) ∨ x.1 = (b, d) := by
  unfold ptD at h
  split at h
  · obtain ⟨y, hy, e⟩ := List.mem_map.mp h
    refine .inl ⟨y, hy, ?_⟩
    subst e
    split <;> rfl
  · rcases List.mem_append.mp h with h | h
    · exact .inl ⟨x, h, rfl⟩
    · rw [List.mem_singleton.mp h]; exact .inr rfl
theorem len_eq {L : LD} {kvs : KN} (e : (L.map fun x => (x.1.2, x.2)) = (kvs.map fun x => (dSp x.1, x.2))) : L.length = kvs.length := by
  have := congrArg List.length e
  rwa [List.length_map, List.length_map] at this
theorem keys_ok (R : Rel K Hb ρ Fr h H) {L : LD} (k : ∀ x ∈ L, ∃ S, x.1.2 = dSp S ∧ ∀ (K : PySem.W.Frag) (ρ : List Addr), Rep K Hb ρ (.ref x.1.1) (Sp' S)) : ∀ x ∈ L, KeyOk K H x.1 := fun x hx => by
  obtain ⟨S, e, r⟩ := k x hx
  have := ky_ok R (r K ρ)
  rw [← e] at this
  exact this
theorem getX_some {D : DX} {σ : DSt} {i : Nat} {m : KN} (e : getX D σ i = some m) : σ[i]? = some (.dx D m) := by
  unfold getX at e
  split at e
  · rename_i D' kvs eq
    split at e
    · rename_i c; subst c; cases e; exact eq
    · cases e
  · cases e
theorem getFX_some {D : DX} {σ : DSt} {i : Nat} {m : KN} (e : getFX D σ i = some m) : σ[i]? = some (.fdx D m) := by
  unfold getFX at e
  split at e
  · rename_i D' kvs eq
    split at e
    · rename_i c; subst c; cases e; exact eq
    · cases e
  · cases e
theorem slot_dx {D : DX} {σ : DSt} {s : L2.St} (x : Slots K Hb ρ F0 Fr σ s) {i : Nat} {m : KN} (e : getX D σ i = some m) : σ[i]? = some (.dx D m) ∧ ∃ a u, s[i]? = some (some (.ref a)) ∧ Fr a = some u ∧ F0 a = none ∧ D.R m Hb a u :=
  ⟨getX_some e, x.at_ i _ (getX_some e)⟩
theorem slot_fdx {D : DX} {σ : DSt} {s : L2.St} (x : Slots K Hb ρ F0 Fr σ s) {i : Nat} {m : KN} (e : getFX D σ i = some m) : ∃ a od u, s[i]? = some (some (.ref a)) ∧ Hb a = some (.frz od u) ∧ D.R m Hb a u :=
  x.at_ i _ (getFX_some e)
theorem slots_dx {D : DX} {σ : DSt} {s : L2.St} {i : Nat} {p : Addr} {u : HO} {m : KN} (x : Slots K Hb ρ F0 Fr σ s) (f : Fr p = some u) (n0 : F0 p = none) (d : D.R m Hb p u) : Slots K Hb ρ F0 Fr (σ.set i (.dx D m)) (s.set i (some (.ref p))) := by
  have ne : ∀ {j : Nat} {ws : List DV}, (σ.set i (SV.dx D m))[j]? = some (SV.own ws) → i ≠ j := fun {j ws} e z => by
    subst z
    by_cases hl : i < σ.length
    · rw [List.getElem?_set_self hl] at e; cases e
    · rw [List.getElem?_eq_none (by rw [List.length_set]; omega)] at e; cases e
  refine ⟨x.fr, fun j q e => ?_, by rw [List.length_set, List.length_set]; exact x.len, fun j k a ws zs e1 e2 e3 e4 => ?_⟩
  · by_cases hij : i = j
    · subst hij
      by_cases hl : i < σ.length
      · rw [List.getElem?_set_self hl] at e
        cases e
        exact ⟨p, u, List.getElem?_set_self (by rw [← x.len]; exact hl), f, n0, d⟩
      · rw [List.getElem?_eq_none (by rw [List.length_set]; omega)] at e; cases e
    · rw [List.getElem?_set_ne hij] at e
      have y := x.at_ j q e
      rw [List.getElem?_set_ne hij]
      exact y
  · have h1 := ne e1
    have h2 := ne e2
    rw [List.getElem?_set_ne h1] at e1 e3
    rw [List.getElem?_set_ne h2] at e2 e4
    exact x.sep j k a ws zs e1 e2 e3 e4
theorem dx_write {D : DX} {σ : DSt} {s : L2.St} {i : Nat} {a : Addr} {u u' : HO} {m m' : KN} (R : Rel K Hb ρ Fr h H) (x : Slots K Hb ρ F0 Fr σ s) (e : σ[i]? = some (.dx D m)) (es : s[i]? = some (some (.ref a))) (f : Fr a = some u) (n0 : F0 a = none) (d : D.R m Hb a u)
    (od : onlyD i σ = true) (d' : D.R m' Hb a u') (nt : ∀ xs, u' ≠ .tup xs) : Rel K Hb ρ (upd Fr a u') h (upd H a u') ∧ Slots K Hb ρ F0 (upd Fr a u') (σ.set i (.dx D m')) s := by
  have hi : i < σ.length := (List.getElem?_eq_some_iff.mp e).1
  have ne : ∀ {j : Nat} {ws : List DV}, (σ.set i (SV.dx D m'))[j]? = some (SV.own ws) → i ≠ j := fun {j ws} e z => by
    subst z
    rw [List.getElem?_set_self hi] at e; cases e
  refine ⟨R.write f u' nt, fun b o q => ?_, fun j q ej => ?_, by rw [List.length_set]; exact x.len, fun j k b ws zs e1 e2 e3 e4 => ?_⟩
  · rw [upd_ne (fun z => by rw [z, n0] at q; cases q)]; exact x.fr b o q
  · by_cases hij : i = j
    · subst hij
      rw [List.getElem?_set_self hi] at ej
      cases ej
      exact ⟨a, u', es, upd_same, n0, d'⟩
    · rw [List.getElem?_set_ne hij] at ej
      have y := x.at_ j q ej
      cases q with
      | un => trivial
      | val w => exact y
      | own us =>
        obtain ⟨b, zs', e1, f1, n1, r1⟩ := y
        have hb : b ≠ a := fun z => by
          subst z
          rw [f1] at f
          exact D.no_lst d (Option.some.inj f).symm
        exact ⟨b, zs', e1, by rw [upd_ne hb]; exact f1, n1, r1⟩
      | fdt m2 => exact y
      | fdx D m2 => exact y
      | dct m2 => exact absurd (onlyD_at od ej).symm hij
      | dx D m2 => exact absurd (onlyD_dx od ej).symm hij
  · have h1 := ne e1
    have h2 := ne e2
    rw [List.getElem?_set_ne h1] at e1
    rw [List.getElem?_set_ne h2] at e2
    exact x.sep j k b ws zs e1 e2 e3 e4
theorem lock_dx {D : DX} {σ : DSt} {s : L2.St} (R : Rel K Hb ρ Fr h H) (x : Slots K Hb ρ F0 Fr σ s) {i : Nat} {kvs : KN} (ho : onlyD i σ = true) {a : Addr} {u : HO} (es : s[i]? = some (some (.ref a))) (fu : Fr a = some u) (n0 : F0 a = none) (d : D.R kvs Hb a u) (od : Obj) :
    Same Hb (upd Hb a (.frz od u)) ∧ Rel K (upd Hb a (.frz od u)) ρ (fun b => if b = a then none else Fr b) h (upd H a (.frz od u)) ∧ Slots K (upd Hb a (.frz od u)) ρ F0 (fun b => if b = a then none else Fr b) (σ.set i (.fdx D kvs)) s := by
  have hb : Hb a = none := R.ap _ _ fu
  have s1 : Same Hb (upd Hb a (.frz od u)) := same_lend hb
  have fsub : ∀ b o, (if b = a then none else Fr b) = some o → b ≠ a ∧ Fr b = some o := fun b o q => by
    by_cases e : b = a
    · rw [if_pos e] at q; cases q
    · rw [if_neg e] at q; exact ⟨e, q⟩
  have nρ : ∀ (n : Nat) (c : Addr), ρ[n]? = some c → c ≠ a := fun n c q z => by
    have := (R.out n c q).2
    subst z
    rw [fu] at this; cases this
  refine ⟨s1, ⟨fun b o q => ?_, fun b o q => ?_, fun b o q => ?_, R.len, fun n c c0 e1 e2 => (R.cell n c c0 e1 e2).upd (nρ n c e1) s1 (List.prefix_refl _), fun n c e => ?_, R.inj, fun b o q => R.ft b o (fsub b o q).2⟩, ⟨fun b o q => ?_, fun j q e => ?_, by rw [List.length_set]; exact x.len, fun j k c ws zs e1 e2 e3 e4 => ?_⟩⟩
  · by_cases e : b = a
    · subst e; rw [upd_same] at q ⊢; exact q
    · rw [upd_ne e] at q ⊢; exact R.sub b o q
  · obtain ⟨e, q⟩ := fsub b o q
    rw [upd_ne e]; exact R.fr b o q
  · obtain ⟨e, q⟩ := fsub b o q
    rw [upd_ne e]; exact R.ap b o q
  · obtain ⟨z1, z2⟩ := R.out n c e
    exact ⟨by rw [upd_ne (nρ n c e)]; exact z1, by show (if c = a then none else Fr c) = none; rw [if_neg (nρ n c e)]; exact z2⟩
  · show (if b = a then none else Fr b) = some o
    rw [if_neg (ne_of_none q n0)]; exact x.fr b o q
  · by_cases hij : i = j
    · subst hij
      have hl : i < σ.length := by
        have := (List.getElem?_eq_some_iff.mp e).1
        rwa [List.length_set] at this
      rw [List.getElem?_set_self hl] at e
      cases e
      exact ⟨a, od, u, es, upd_same, D.mono s1 d⟩
    · rw [List.getElem?_set_ne hij] at e
      have y := x.at_ j q e
      cases q with
      | un => trivial
      | val w => obtain ⟨v, e1, r⟩ := y; exact ⟨v, e1, r.mono s1 (List.prefix_refl _) (Same.refl _)⟩
      | own ws =>
        obtain ⟨c, xs, e1, f1, n1, r⟩ := y
        have hc : c ≠ a := fun z => by
          subst z; rw [fu] at f1
          exact D.no_lst d (Option.some.inj f1)
        exact ⟨c, xs, e1, by show (if c = a then none else Fr c) = _; rw [if_neg hc]; exact f1, n1, r.mono s1 (List.prefix_refl _)⟩
      | dct m => exact absurd (onlyD_at ho e) (fun z => hij z.symm)
      | dx D' m => exact absurd (onlyD_dx ho e) (fun z => hij z.symm)
      | fdt m => obtain ⟨c, od', l', e1, f1, r⟩ := y; exact ⟨c, od', l', e1, s1 _ _ f1, r.mono s1 (List.prefix_refl _)⟩
      | fdx D' m => obtain ⟨c, od', l', e1, f1, r⟩ := y; exact ⟨c, od', l', e1, s1 _ _ f1, D'.mono s1 r⟩
  · have f1 : i ≠ j := fun z => by
      subst z
      have hl : i < σ.length := by
        have := (List.getElem?_eq_some_iff.mp e1).1
        rwa [List.length_set] at this
      rw [List.getElem?_set_self hl] at e1; cases e1
    have f2 : i ≠ k := fun z => by
      subst z
      have hl : i < σ.length := by
        have := (List.getElem?_eq_some_iff.mp e2).1
        rwa [List.length_set] at this
      rw [List.getElem?_set_self hl] at e2; cases e2
    rw [List.getElem?_set_ne f1] at e1
    rw [List.getElem?_set_ne f2] at e2
    exact x.sep j k c ws zs e1 e2 e3 e4
end
end SN
namespace SN
open PySem PySem.Spec PyProof.Rows PySem.SeqAt L2 DL
section
variable {X : Cx} {E : XK} {e o k v : Expr} {pos pos' p2 : Pos} {dk dv : DE} {d1 : DS} {x : Str} {st : Stmt}
theorem ss_newX {i : Nat} (hs : PS X (.Assign [.Name x pos'] (.Dict [] [] p2) pos) (tAsg (tNNew X.prog X.w) (gName i))) : SS X E (.Assign [.Name x pos'] (.Dict [] [] p2) pos) (dNewX (NBX X.prog X.w) i) := hs.weak fun D s H ⟨Hb, ρ, F0, Fr, σ, h, R, x, z⟩ => by
  intro p hp
  have hF := R.fr_fresh hp
  exact z Hb ρ _ _ _ (Same.refl _) (List.prefix_refl _) (R.lend hp (DBoxO X.prog X.w p [])) (slots_dx (slots_frame (same_lend hF) x) upd_same (Same.free x.fr hF) ⟨[], rfl, rfl, fun _ q => nomatch q⟩)
theorem ss_putX {n i : Nat} (hr : Room n X.A) (hv : SE X (cE E) e dv) (ho : PE X o (tVar i)) (hk : SE X (cE E) k dk) (hs : swapsWith e (some (.Subscript o k pos')) pos.line X.env = pure false := by rfl) :
    SS X E (.Assign [.Subscript o k pos'] e pos) (dPutX (NBX X.prog X.w) i dv dk) := (ps_nput (by have := hr.un; omega) ho hk hv hs).weak fun D s H ⟨Hb, ρ, F0, Fr, σ, h, R, x, z⟩ => by
  refine ⟨Hb, ρ, F0, Fr, σ, h, R, x, (Rz.bind z).imp (fun y h1 z => ?_) (Pex.lift x.fr)⟩
  obtain ⟨od, z⟩ := Rz.chk z
  obtain ⟨m, em, z⟩ := Rz.ofO (Rz.bind z)
  intro Hb1 ρ1 H1 vv s1 p1 R1 r1
  have x1 := x.mono s1 p1
  obtain ⟨eσ, a, u, es, fu, n0, d⟩ := slot_dx x1 em
  refine ⟨.ref a, es, Hb1, ρ1, F0, Fr, σ, h1, R1, x1, (Rz.bind z).imp (fun w h2 z => ?_) fun c h q => Pex.lift x.fr c h (Pex.back s1 p1 c h q)⟩
  obtain ⟨m', e, kk⟩ := Rz.ofO (Rz.bind z)
  obtain ⟨S, e2, e3⟩ := Option.bind_eq_some_iff.mp e
  obtain ⟨j, e4, e5⟩ := Option.bind_eq_some_iff.mp e3
  intro Hb2 ρ2 H2 kv s2 p2 R2 r2
  have d2 := (NBX X.prog X.w).mono s2 d
  have x2 := x1.mono s2 p2
  by_cases c : m.length < 1000
  · rw [if_pos c] at e5
    cases e5
    obtain ⟨L, eu, eL, kL⟩ := id d2
    subst eu
    obtain ⟨b, rfl, rb⟩ := spI_at r2 e2
    have evv : vv = V.int j := by
      cases y <;> simp [asI] at e4
      subst e4
      cases r1 with
      | per r1 => cases r1; rfl
    have d' : (NBX X.prog X.w).R (ptK m S j) Hb2 a (DBoxO X.prog X.w a (ptD L b (dSp S) j)) := ⟨_, rfl, pt_eq b S j eL, fun x hx => by
      rcases pt_mem hx with ⟨y, hy, e⟩ | e
      · rw [← e]; exact kL y hy
      · rw [e]; exact ⟨S, rfl, fun K ρ => rep_sp_any rb⟩⟩
    obtain ⟨R3, x3⟩ := dx_write R2 x2 eσ es fu n0 d2 od d' (fun xs z => nomatch z)
    exact ⟨a, L, b, dSp S, j, rfl, R2.fr _ _ fu, keys_ok R2 kL, by rw [len_eq eL]; exact c, rfl, ky_ok R2 rb, evv, kk Hb2 ρ2 _ _ s (s1.trans s2) (p1.trans p2) R3 x3⟩
  · rw [if_neg c] at e5; cases e5
theorem ss_lockX {i : Nat} (h : SS X E st d1) : SS X E st (dLockX (NBX X.prog X.w) i d1) := (ps_lockF h).weak fun D s H ⟨Hb, ρ, F0, Fr, σ, h, R, x, k⟩ => by
  obtain ⟨ho, k⟩ := Rz.chk k
  obtain ⟨m, em, k⟩ := Rz.ofO (Rz.bind k)
  obtain ⟨_, a, u, es, fu, n0, d⟩ := slot_dx x em
  refine ⟨a, u, R.fr _ _ fu, ?_, fun od => ?_⟩
  · obtain ⟨L, eu, _⟩ := d
    subst eu
    trivial
  · obtain ⟨s1, R1, x1⟩ := lock_dx R x ho es fu n0 d od
    exact ⟨_, ρ, F0, _, _, h, R1, x1, Rz.imp k (PFl.back s1 (List.prefix_refl _)) (Pex.back s1 (List.prefix_refl _))⟩
end
section
variable {X : Cx} {E : L2.St → XK} {e f o tg : Expr} {pos : Pos} {dk dv : DE}
theorem se_get2X {k i : Nat} {apos cpos : Pos} (hr : Room k X.A) (ho : PE X o (tVar i)) (hk : SE X E e dk) (hv : SE X E f dv) (mm : M2 X o "get" apos e f cpos) : SE X E (.Call (.Attribute o "get" apos) [e, f] [] cpos) (dGet2X (NBX X.prog X.w) i dk dv) :=
  (pe_nget2 (by have := hr.un; omega) ho hk hv mm).weak fun s H Q ⟨Hb, ρ, F0, Fr, σ, h, R, x, k⟩ => by
  obtain ⟨m, em, k⟩ := Rz.ofO (Rz.bind k)
  obtain ⟨_, a, u, es, fu, _, d⟩ := slot_dx x em
  obtain ⟨L1, eu, _⟩ := id d
  subst eu
  refine ⟨.ref a, es, a, L1, rfl, Rd.of (R.fr _ _ fu), Hb, ρ, F0, Fr, σ, h, R, x, (Rz.bind k).imp (fun w h1 k => ?_) fun _ _ z => z⟩
  intro Hb1 ρ1 H1 y s1 p1 R1 r1
  refine ⟨Hb1, ρ1, F0, Fr, σ, h1, R1, x.mono s1 p1, (Rz.bind k).imp (fun z h2 k => ?_) (Pex.back s1 p1)⟩
  intro Hb2 ρ2 H2 zv s2 p2 R2 r2
  obtain ⟨w', ew, k⟩ := Rz.ofO k
  obtain ⟨S, ek, ez⟩ := Option.map_eq_some_iff.mp ew
  subst ez
  obtain ⟨L, eu, eL, kL⟩ := (NBX X.prog X.w).mono (s1.trans s2) d
  obtain ⟨b, rfl, rb⟩ := spI_at (r1.mono s2 p2 (Same.refl _)) ek
  refine ⟨L, b, dSp S, ⟨Rd.of (by rw [← eu]; exact R2.fr _ _ fu), keys_ok R2 kL⟩, rfl, ky_ok R2 rb, ?_⟩
  rw [lk_eq S eL]
  cases hl : lkK m S with
  | none =>
    rw [hl] at k
    exact Pst.same R2 (Pst.back (s1.trans s2) (p1.trans p2) _ _ k) r2
  | some j =>
    rw [hl] at k
    exact Pst.same R2 (Pst.back (s1.trans s2) (p1.trans p2) _ _ k) (.per (.int j))
theorem se_getX {k i : Nat} (hr : Room k X.A) (ho : PE X o (tVar i)) (hk : SE X E e dk) (hs : NoSl e) : SE X E (.Subscript o e pos) (dGetX (NBX X.prog X.w) i dk) :=
  (pe_nget (by have := hr.un; omega) ho hk hs).weak fun s H Q ⟨Hb, ρ, F0, Fr, σ, h, R, x, k⟩ => by
  obtain ⟨m, em, k⟩ := Rz.ofO (Rz.bind k)
  obtain ⟨a, od, u, es, hb, d⟩ := slot_fdx x em
  refine ⟨.ref a, es, Hb, ρ, F0, Fr, σ, h, R, x, (Rz.bind k).imp (fun w h1 k => ?_) fun _ _ z => z⟩
  intro Hb1 ρ1 H1 y s1 p1 R1 r1
  obtain ⟨z, ez, k⟩ := Rz.ofO k
  obtain ⟨S, e1, e2⟩ := Option.bind_eq_some_iff.mp ez
  obtain ⟨j, e3, e4⟩ := Option.map_eq_some_iff.mp e2
  subst e4
  obtain ⟨L, eu, eL, kL⟩ := (NBX X.prog X.w).mono s1 d
  obtain ⟨b, rfl, rb⟩ := spI_at r1 e1
  exact ⟨a, L, b, dSp S, j, rfl, ⟨.inr ⟨od, by rw [← eu]; exact R1.sub _ _ (s1 _ _ hb)⟩, keys_ok R1 kL⟩, rfl, ky_ok R1 rb, by rw [lk_eq S eL]; exact e3, Pst.same R1 (Pst.back s1 p1 _ _ k) (.per (.int j))⟩
theorem se_lenX {i : Nat} {x : Str} {p p2 : Pos} (hg : Gl X "len") (hm : X.mg "len" = none) (hv : PE X (.Name x p2) (tVar i)) : SE X E (.Call (.Name "len" p) [.Name x p2] [] pos) (dLenX (NBX X.prog X.w) i) :=
  (pe_callB cr_nlen hg hm rfl (pa_cons hv pa_nil)).weak fun s H Q ⟨Hb, ρ, F0, Fr, σ, h, R, x, k⟩ => by
    obtain ⟨w, ew, k⟩ := Rz.ofO k
    obtain ⟨m, em, e2⟩ := Option.map_eq_some_iff.mp ew
    subst e2
    obtain ⟨a, od, u, es, hb, L, eu, eL, kL⟩ := slot_fdx x em
    subst eu
    refine ⟨.ref a, es, a, L, rfl, .inr ⟨od, R.sub _ _ hb⟩, ?_⟩
    rw [len_eq eL]
    exact Pst.same R k (.per (.int _))
theorem src_keysN {P : Program} {w : World} {K : PySem.W.Frag} {d : Addr} {od : Obj} {L : LD} {kvs : KN} (eL : (L.map fun x => (x.1.2, x.2)) = (kvs.map fun x => (dSp x.1, x.2))) : Src K (Itn P w d od L) (kvs.map fun e => Sp' e.1) (fun Hb ρ _ => Hb d = some (.frz od (DBoxO P w d L)) ∧ ∀ x ∈ L, ∃ S, x.1.2 = dSp S ∧ ∀ (K : PySem.W.Frag) (ρ : List Addr), Rep K Hb ρ (.ref x.1.1) (Sp' S)) where
  mono := fun Hb Hb' ρ ρ' G s p iv => ⟨s _ _ iv.1, fun x hx => by
    obtain ⟨S, h1, h2⟩ := iv.2 x hx
    exact ⟨S, h1, fun K ρ => (h2 K ρ).mono s (List.prefix_refl _)⟩⟩
  stop := fun Hb ρ G Fr h H iv _ R => by
    refine ⟨R.sub _ _ iv.1, ?_⟩
    rw [List.length_map, ← len_eq eL]
    exact Nat.le_refl _
  go := fun Hb ρ G Fr h H i w' iv _ R e => by
    rw [List.getElem?_map] at e
    obtain ⟨⟨k, y⟩, ek, ew⟩ := Option.map_eq_some_iff.mp e
    subst ew
    have hi : i < L.length := by rw [len_eq eL]; exact (List.getElem?_eq_some_iff.mp ek).1
    refine ⟨⟨R.sub _ _ iv.1, hi⟩, fun x H' ⟨hH, q, eq, ex⟩ => ?_⟩
    subst hH ex
    obtain ⟨S, h1, h2⟩ := iv.2 q (List.mem_of_getElem? eq)
    have e3 := congrArg (fun z : List (PyData × Int) => z[i]?) eL
    rw [List.getElem?_map, List.getElem?_map, eq, ek] at e3
    have e4 : q.1.2 = dSp k := congrArg (fun z : PyData × Int => z.1) (Option.some.inj e3)
    rw [h1] at e4
    have e5 := dSp_inj e4
    subst e5
    exact ⟨Hb, Same.refl _, R, h2 K ρ⟩
theorem si_keysX {c : Bool} {i : Nat} {x : Str} {p : Pos} (he : PE X (.Name x p) (tVar i)) : SI X E c tg (.Name x p) (dKeysX (NBX X.prog X.w) i) := (pi_keysN he).weak fun s H Rr ⟨Hb, ρ, F0, Fr, σ, h, R, x, k⟩ => by
  obtain ⟨ws, ew, k⟩ := Rz.ofO k
  obtain ⟨kvs, ek, e2⟩ := Option.map_eq_some_iff.mp ew
  subst e2
  obtain ⟨a, od, u, es, hb, L, eu, eL, kL⟩ := slot_fdx x ek
  subst eu
  exact ⟨.ref a, es, a, od, L, rfl, R.sub _ _ hb, k Hb ρ H _ _ (Same.refl _) (List.prefix_refl _) R (src_keysN eL) ⟨hb, kL⟩⟩
end
end SN
namespace DL
open PySem PySem.Spec PyProof.Rows L2
section
variable {i : Nat} {D : DX} {d1 : DS} {dk dv : DE} {σ : DSt} {h : DH}
@[simp] theorem dNewX_ap : dNewX D i σ h = .ok (.next (σ.set i (.dx D []))) h := nrfl rfl
@[simp] theorem dGet2X_ap : dGet2X D i dk dv σ h = (ofO (getX D σ i) h).bind fun kvs h => (dk σ h).bind fun w h1 => (dv σ h1).bind fun y h2 => ofO ((spI w).map fun k => ((lkK kvs k).map DV.int).getD y) h2 := nrfl rfl
@[simp] theorem dPutX_ap : dPutX D i dv dk σ h = (dv σ h).bind fun y h1 => chk (onlyD i σ) ((ofO (getX D σ i) h1).bind fun kvs h1 => (dk σ h1).bind fun w h2 => (ofO ((spI w).bind fun k => (asI y).bind fun j => if kvs.length < 1000 then some (ptK kvs k j) else none) h2).bind fun m' h3 => .ok (.next (σ.set i (.dx D m'))) h3) := nrfl rfl
@[simp] theorem dLockX_ap : dLockX D i d1 σ h = chk (onlyD i σ) ((ofO (getX D σ i) h).bind fun kvs h => d1 (σ.set i (.fdx D kvs)) h) := nrfl rfl
@[simp] theorem dKeysX_ap : dKeysX D i σ h = ofO ((getFX D σ i).map fun kvs => kvs.map fun e => Sp' e.1) h := nrfl rfl
@[simp] theorem dGetX_ap : dGetX D i dk σ h = (ofO (getFX D σ i) h).bind fun kvs h => (dk σ h).bind fun w h1 => ofO ((spI w).bind fun k => (lkK kvs k).map DV.int) h1 := nrfl rfl
@[simp] theorem dLenX_ap : dLenX D i σ h = ofO ((getFX D σ i).map fun kvs => .int kvs.length) h := nrfl rfl
theorem getX_of {kvs : KN} (e : σ[i]? = some (.dx D kvs)) : getX D σ i = some kvs := by
  unfold getX
  rw [e]
  exact if_pos rfl
theorem getFX_of {kvs : KN} (e : σ[i]? = some (.fdx D kvs)) : getFX D σ i = some kvs := by
  unfold getFX
  rw [e]
  exact if_pos rfl
end
end DL
namespace M
open PySem PySem.Spec PyProof.Rows L2 DL
def kv_LONGEST : List (Int × Int) := [(2, 4), (3, 4), (5, 2)]
def d_is_number : DS := (dSeq (dIfS (dOr (dNot (dFn gIsi (daCons (dVar 0) (daCons (dC (.con (.ty "int"))) daNil)))) (dFn gIsi (daCons (dVar 0) (daCons (dC (.con (.ty "bool"))) daNil)))) (dRet (dC (.bl false))) dNext)
  (dRet (dChain gLe gLe (dVar 1) (dVar 0) (dVar 2))))
def F_is_number : Fn := runF 3 3 d_is_number
def d_check_number : DS := (dIfS (dNot (dCall 3 F_is_number (daCons (dVar 0) (daCons (dC (.int 0)) (daCons (dVar 1) daNil))))) (dRaiseF "InvalidNumber" 1) dNext)
def F_check_number : Fn := runF 2 2 d_check_number
def d_is_setting : DS := (dSeq (dIfS (dOr (dNot (dFn gIsi (daCons (dVar 0) (daCons (dC (.con (.ty "tuple"))) daNil)))) (dOp gNe (dFn gLen (daCons (dVar 0) daNil)) (dC (.int 2)))) (dRet (dC (.bl false))) dNext)
  (dSeq (dAsg (tfT 2 (tfsCons (tfN 1) (tfsCons (tfN 2) tfsNil))) (dVar 0))
  (dRet (dAnd (dCall 3 F_is_number (daCons (dVar 1) (daCons (dC (.int 2)) (daCons (dC (.int 5)) daNil)))) (dAnd (dKIn kv_LONGEST (dVar 1)) (dCall 3 F_is_number (daCons (dVar 2) (daCons (dC (.int 1)) (daCons (dKIx kv_LONGEST (dVar 1)) daNil)))))))))
def F_is_setting : Fn := runF 1 3 d_is_setting
def d_check_setting : DS := (dIfS (dNot (dCall 1 F_is_setting (daCons (dVar 0) daNil))) (dRaise "InvalidSetting") dNext)
def F_check_setting : Fn := runF 1 1 d_check_setting
def d_is_row : DS := (dSeq (dExpr (dCall 1 F_check_setting (daCons (dVar 0) daNil)))
  (dSeq (dAsg (tfT 2 (tfsCons (tfN 2) (tfsCons (tfN 3) tfsNil))) (dVar 0))
  (dSeq (dIfS (dOr (dNot (dFn gIsi (daCons (dVar 1) (daCons (dC (.con (.ty "tuple"))) daNil)))) (dOp gNe (dFn gLen (daCons (dVar 1) daNil)) (dVar 3))) (dRet (dC (.bl false))) dNext)
  (dRet (dFn gAll (daCons (dComp (dSeqOf (dVar 1)) (tfN 4) dYes (dCall 3 F_is_number (daCons (dVar 4) (daCons (dC (.int 0)) (daCons (dOp gSub (dVar 2) (dC (.int 1))) daNil)))) [4]) daNil))))))
def F_is_row : Fn := runF 2 5 d_is_row
def d_add_multiple : DS := (dRet (dFn gTuple (daCons (dComp (dSrc (gZip true) (daCons (dVar 1) (daCons (dVar 3) daNil))) (tfT 2 (tfsCons (tfN 4) (tfsCons (tfN 5) tfsNil))) dYes (dOp gMod (dOp gAdd (dVar 4) (dOp gMul (dVar 2) (dVar 5))) (dVar 0)) [4, 5]) daNil)))
def F_add_multiple : Fn := runF 4 6 d_add_multiple
def d_leading_place : DS := (dSeq (dFor (dSrc (gEnum false) (daCons (dVar 0) daNil)) (tfT 2 (tfsCons (tfN 1) (tfsCons (tfN 2) tfsNil))) (dIfS (dOp gNe (dVar 2) (dC (.int 0))) (dRetV 1) dNext))
  (dRet (dC .non)))
def F_leading_place : Fn := runF 1 3 d_leading_place
def d_with_leading_one : DS := (dSeq (dSet 2 (dOp gIx (dVar 1) (dCall 1 F_leading_place (daCons (dVar 1) daNil))))
  (dSeq (dSet 3 (dC (.int 1)))
  (dSeq (loopW (dOp gNe (dOp gMod (dOp gMul (dVar 3) (dVar 2)) (dVar 0)) (dC (.int 1))) (dAug_add 3 (dC (.int 1))) fuel)
  (dRet (dFn gTuple (daCons (dComp (dSeqOf (dVar 1)) (tfN 4) dYes (dOp gMod (dOp gMul (dVar 3) (dVar 4)) (dVar 0)) [4]) daNil))))))
def F_with_leading_one : Fn := runF 2 5 d_with_leading_one
def d_cleared : DS := (dRet (dCall 4 F_add_multiple (daCons (dVar 0) (daCons (dVar 1) (daCons (dUn gNeg (dOp gIx (dVar 1) (dCall 1 F_leading_place (daCons (dVar 2) daNil)))) (daCons (dVar 2) daNil))))))
def F_cleared : Fn := runF 3 3 d_cleared
def d_remainder : DS := (dSeq (dSetV 3 2)
  (dSeq (dForV 1 (dSlot 1) (tfN 4) (dSet 3 (dCall 3 F_cleared (daCons (dVar 0) (daCons (dVar 3) (daCons (dVar 4) daNil))))))
  (dRetV 3)))
def F_remainder : Fn := runF 3 5 d_remainder
def d_reduced_rows : DS := (dSeq (dSet 2 (dLst daNil))
  (dSeq (dForV 1 (dSlot 1) (tfN 3) (dSeq (dSet 4 (dCall 3 F_remainder (daCons (dVar 0) (daCons (dVar 2) (daCons (dVar 3) daNil)))))
  (dIfS (dOp gIsNot (dCall 1 F_leading_place (daCons (dVar 4) daNil)) (dC .non)) (dSeq (dSet 5 (dCall 2 F_with_leading_one (daCons (dVar 0) (daCons (dVar 4) daNil))))
  (dSet 2 (dOp gAdd (dComp (dSeqOf (dVar 2)) (tfN 6) dYes (dCall 3 F_cleared (daCons (dVar 0) (daCons (dVar 6) (daCons (dVar 5) daNil)))) [6]) (dLst (daCons (dVar 5) daNil))))) dNext)))
  (dRet (dFn gTuple (daCons (dSortKey F_leading_place (dVar 2)) daNil)))))
def F_reduced_rows : Fn := runF 2 7 d_reduced_rows
def d_span : DS := (dSeq (dExpr (dCall 1 F_check_setting (daCons (dVar 0) daNil)))
  (dSeq (dIfS (dOr (dNot (dFn gIsi (daCons (dVar 1) (daCons (dC (.con (.ty "list"))) daNil)))) (dOr (dOp gGt (dFn gLen (daCons (dVar 1) daNil)) (dC (.int 12))) (dNot (dFn gAll (daCons (dComp (dSeqOf (dVar 1)) (tfN 2) dYes (dCall 2 F_is_row (daCons (dVar 0) (daCons (dVar 2) daNil))) [2]) daNil))))) (dRaise "InvalidRows") dNext)
  (dRet (dCall 2 F_reduced_rows (daCons (dOp gIx (dVar 0) (dC (.int 0))) (daCons (dVar 1) daNil))))))
def F_span : Fn := runF 2 3 d_span
def d_power : DS := (dSeq (dSet 2 (dC (.int 1)))
  (dSeq (dFor (dSrc gRange1 (daCons (dVar 1) daNil)) (tfN 3) (dSet 2 (dOp gMul (dVar 2) (dVar 0))))
  (dRetV 2)))
def F_power : Fn := runF 2 4 d_power
def d_number_of_subspaces (F_number_of_subspaces : Fn) : DS := (dSeq (dIfS (dOr (dOp gEq (dVar 2) (dC (.int 0))) (dOp gEq (dVar 2) (dVar 1))) (dRet (dC (.int 1))) dNext)
  (dRet (dOp gAdd (dCall 3 F_number_of_subspaces (daCons (dVar 0) (daCons (dOp gSub (dVar 1) (dC (.int 1))) (daCons (dOp gSub (dVar 2) (dC (.int 1))) daNil)))) (dOp gMul (dCall 2 F_power (daCons (dVar 0) (daCons (dVar 2) daNil))) (dCall 3 F_number_of_subspaces (daCons (dVar 0) (daCons (dOp gSub (dVar 1) (dC (.int 1))) (daCons (dVar 2) daNil))))))))
def R_number_of_subspaces : Nat → Fn
  | 0 => fun _ _ => .bad
  | j + 1 => runF 3 3 (d_number_of_subspaces (R_number_of_subspaces j))
def F_number_of_subspaces : Fn := R_number_of_subspaces 8
def d_count_subspaces : DS := (dSeq (dExpr (dCall 1 F_check_setting (daCons (dVar 0) daNil)))
  (dSeq (dAsg (tfT 2 (tfsCons (tfN 2) (tfsCons (tfN 3) tfsNil))) (dVar 0))
  (dSeq (dExpr (dCall 2 F_check_number (daCons (dVar 1) (daCons (dVar 3) daNil))))
  (dRet (dCall 3 F_number_of_subspaces (daCons (dVar 2) (daCons (dVar 3) (daCons (dVar 1) daNil))))))))
def F_count_subspaces : Fn := runF 2 4 d_count_subspaces
def d__law_cell_at : DS := (dSeq (dIfS (dOp gLt (dVar 1) (dFn gLen (daCons (dVar 0) daNil))) (dRet (dOp gIx (dVar 0) (dVar 1))) dNext)
  (dSeq (dIfS (dOp gEq (dVar 0) (dLst daNil)) (dRet (dC (.int 0))) dNext)
  (dSeq (dSet 2 (dOp gIx (dVar 0) (dOp gMod (dVar 1) (dFn gLen (daCons (dVar 0) daNil)))))
  (dSeq (dFor (dSrc gRange1 (daCons (dFn gMin2 (daCons (dOp gFdiv (dVar 1) (dFn gLen (daCons (dVar 0) daNil))) (daCons (dC (.int 60)) daNil))) daNil)) (tfN 3) (dSet 2 (dOp gFdiv (dVar 2) (dC (.int 1000003)))))
  (dRet (dOp gAdd (dOp gAdd (dOp gMul (dOp gIx (dVar 0) (dOp gMod (dVar 1) (dFn gLen (daCons (dVar 0) daNil)))) (dC (.int 31))) (dVar 1)) (dOp gMul (dVar 2) (dC (.int 101)))))))))
def F__law_cell_at : Fn := runF 2 4 d__law_cell_at
def d__law_mixed : DS := (dSeq (dSet 3 (dOp gMod (dOp gAdd (dOp gAdd (dOp gMul (dCall 2 F__law_cell_at (daCons (dVar 0) (daCons (dVar 1) daNil))) (dC (.int 1103515245))) (dOp gMul (dC (.int 7919)) (dVar 1))) (dC (.int 12345))) (dC (.int 2147483647))))
  (dRet (dOp gMod (dOp gMod (dOp gMod (dOp gPow (dVar 3) (dC (.int 5))) (dC (.int 2147483647))) (dC (.int 999983))) (dVar 2))))
def F__law_mixed : Fn := runF 3 4 d__law_mixed
def d__law_draw : DS := (dSeq (dMut 1 gApp (daCons (dC (.int 0)) daNil))
  (dRet (dCall 3 F__law_mixed (daCons (dVar 0) (daCons (dFn gLen (daCons (dVar 1) daNil)) (daCons (dVar 2) daNil))))))
def F__law_draw : Fn := runF 3 3 d__law_draw
def d__law_pick : DS := (dRet (dOp gIx (dVar 2) (dCall 3 F__law_draw (daCons (dVar 0) (daCons (dVar 1) (daCons (dFn gLen (daCons (dVar 2) daNil)) daNil))))))
def F__law_pick : Fn := runF 3 3 d__law_pick
def d__law_every_row : DS := (dSeq (dSet 1 (dLst (daCons (dTup daNil) daNil)))
  (dSeq (dFor (dSrc gRange1 (daCons (dOp gIx (dVar 0) (dC (.int 1))) daNil)) (tfN 2) (dSeq (dNewL 3 daNil)
  (dSeq (dForV 1 (dSlot 1) (tfN 4) (dMut 3 gExt (daCons (dComp (dSrc gRange1 (daCons (dOp gIx (dVar 0) (dC (.int 0))) daNil)) (tfN 5) dYes (dOp gAdd (dVar 4) (dTup (daCons (dVar 5) daNil))) [5]) daNil)))
  (dSetV 1 3))))
  (dRetV 1)))
def F__law_every_row : Fn := runF 1 6 d__law_every_row
def d__law_size_by : DS := (dSeq (dSet 2 (dC (.int 1)))
  (dSeq (dFor (dSrc gRange1 (daCons (dVar 1) daNil)) (tfN 3) (dSet 2 (dOp gMul (dVar 2) (dVar 0))))
  (dRetV 2)))
def F__law_size_by : Fn := runF 2 4 d__law_size_by
noncomputable def d_law (D : DX) : DS := (dSeq (dNewC 1 daNil)
  (dSeq (dSet 2 (dCall 3 F__law_pick (daCons (dVar 0) (daCons (dVar 1) (daCons (dLst (daCons (dTup (daCons (dC (.int 2)) (daCons (dC (.int 1)) daNil))) (daCons (dTup (daCons (dC (.int 2)) (daCons (dC (.int 2)) daNil))) (daCons (dTup (daCons (dC (.int 2)) (daCons (dC (.int 3)) daNil))) (daCons (dTup (daCons (dC (.int 3)) (daCons (dC (.int 1)) daNil))) (daCons (dTup (daCons (dC (.int 3)) (daCons (dC (.int 2)) daNil))) (daCons (dTup (daCons (dC (.int 5)) (daCons (dC (.int 1)) daNil))) daNil))))))) daNil)))))
  (dSeq (dAsg (tfT 2 (tfsCons (tfN 9) (tfsCons (tfN 10) tfsNil))) (dVar 2))
  (dSeq (dSet 3 (dOp gAdd (dC (.int 1)) (dCall 3 F__law_draw (daCons (dVar 0) (daCons (dVar 1) (daCons (dFn gMin2 (daCons (dVar 10) (daCons (dC (.int 2)) daNil))) daNil))))))
  (dSeq (dSet 4 (dLst (daCons (dLst daNil) daNil)))
  (dSeq (dFor (dSrc gRange1 (daCons (dVar 3) daNil)) (tfN 5) (dSeq (dNewL 11 daNil)
  (dSeq (dForV 4 (dSlot 4) (tfN 7) (dMut 11 gExt (daCons (dComp (dSeqOf (dCall 1 F__law_every_row (daCons (dVar 2) daNil))) (tfN 15) dYes (dOp gAdd (dVar 7) (dLst (daCons (dVar 15) daNil))) [15]) daNil)))
  (dSetV 4 11))))
  (dSeq (dNewX D 6)
  (dSeq (dForV 4 (dSlot 4) (tfN 7) (dSeq (dSet 12 (dCall 2 F_span (daCons (dVar 2) (daCons (dVar 7) daNil))))
  (dIfS (dOp gEq (dFn gLen (daCons (dVar 12) daNil)) (dVar 3)) (dPutX D 6 (dOp gAdd (dGet2X D 6 (dVar 12) (dC (.int 0))) (dC (.int 1))) (dVar 12)) dNext)))
  (dSeq (dAsg (tfT 2 (tfsCons (tfN 13) (tfsCons (tfN 14) tfsNil))) (dTup (daCons (dC (.int 1)) (daCons (dC (.int 1)) daNil))))
  (dSeq (dFor (dSrc gRange1 (daCons (dVar 3) daNil)) (tfN 8) (dSeq (dSet 13 (dOp gMul (dVar 13) (dOp gSub (dCall 2 F__law_size_by (daCons (dVar 9) (daCons (dVar 10) daNil))) (dCall 2 F__law_size_by (daCons (dVar 9) (daCons (dVar 8) daNil))))))
  (dSet 14 (dOp gMul (dVar 14) (dOp gSub (dCall 2 F__law_size_by (daCons (dVar 9) (daCons (dVar 3) daNil))) (dCall 2 F__law_size_by (daCons (dVar 9) (daCons (dVar 8) daNil))))))))
  (dSeq (dLockX D 6 (dIfS (dOr (dOp gNe (dFn gSum (daCons (dComp (dKeysX D 6) (tfN 12) dYes (dGetX D 6 (dVar 12)) [12]) daNil)) (dVar 13)) (dOp gNe (dComp (dKeysX D 6) (tfN 12) (dOp gNe (dGetX D 6 (dVar 12)) (dVar 14)) (dC (.int 1)) [12]) (dLst daNil))) (dRet (dC (.bl false))) dNext))
  (dRet (dAnd (dOp gEq (dLenX D 6) (dCall 2 F_count_subspaces (daCons (dVar 2) (daCons (dVar 3) daNil)))) (dOp gEq (dOp gMul (dCall 2 F_count_subspaces (daCons (dVar 2) (daCons (dVar 3) daNil))) (dVar 14)) (dVar 13)))))))))))))))
noncomputable def F_law (D : DX) : Fn := runF 1 16 (d_law D)
end M
namespace M
open PySem PySem.Spec PyProof.Rows L2 DL
theorem cell_loop (s : DV) (k : Int) : ∀ (ws : List DV) (spare : Int) (q : SV) (h : DH), ∃ spare' q', loopF (tfN 3) (dSet 2 (dOp gFdiv (dVar 2) (dC (.int 1000003)))) ws [.val s, .val (.int k), .val (.int spare), q] h = .ok (.next [.val s, .val (.int k), .val (.int spare'), q']) h
  | [], spare, q, h => ⟨spare, q, rfl⟩
  | w :: ws, spare, q, h => by
    obtain ⟨s', q', e⟩ := cell_loop s k ws (spare / 1000003) (.val w) h
    exact ⟨s', q', e⟩
theorem cell_at (ns : List Int) (k : Nat) (hk : k < 100000) (hn : ns.length ≤ 63) (h : DH) : ∃ i, F__law_cell_at [.brw (ns.map .int), .int (k : Nat)] h = .ok (.int i) h := by
  unfold F__law_cell_at d__law_cell_at
  by_cases hl : k < ns.length
  · have e : gIx (.brw (ns.map .int)) (.int (k : Nat)) = some (.int ns[k]) := gIx_nat rfl (by simp [hl])
    refine ⟨ns[k], ?_⟩
    simp [e, hl]
  · have e3 := enc_eq (enc_brw enc_int) (enc_lst enc_int) (a := ns) (b := [])
    by_cases h0 : ns = []
    · subst h0
      refine ⟨0, ?_⟩
      simp only [List.map_nil] at e3
      have : ¬ (k : Int) < 0 := by omega
      simp [e3, le_cap_of, this]
    · have hp : 0 < ns.length := List.length_pos_iff.mpr h0
      have e4 : gMod (.int (k : Nat)) (.int (ns.length : Nat)) = some (.int ((k % ns.length : Nat))) := by
        rw [gMod_int (by omega)]; rfl
      have hm : k % ns.length < ns.length := Nat.mod_lt _ hp
      have e5 : gIx (.brw (ns.map .int)) (.int ((k % ns.length : Nat))) = some (.int ns[k % ns.length]) := gIx_nat rfl (by simp [hm])
      have e6 : gFdiv (.int (k : Nat)) (.int (ns.length : Nat)) = some (.int ((k / ns.length : Nat))) := by
        rw [gFdiv_int ⟨by omega, by omega⟩]; rfl
      generalize ns[k % ns.length] = m at e5
      have hl' : ¬ (k : Int) < ns.length := by omega
      obtain ⟨t, ht, et⟩ : ∃ t : Nat, t ≤ 60 ∧ gMin2 [.int ((k / ns.length : Nat)), .int 60] h = some (.int (t : Nat)) := by
        refine ⟨if 60 < k / ns.length then 60 else k / ns.length, by split <;> omega, ?_⟩
        show some (DV.int (if (60 : Int) < ((k / ns.length : Nat) : Int) then 60 else ((k / ns.length : Nat) : Int))) = _
        split <;> split <;> first | rfl | omega
      obtain ⟨sp, q, el⟩ := cell_loop (.brw (ns.map .int)) (k : Nat) (intsFrom 0 t) m .un h
      have e7 := gMul_int (i := m) (j := 31) (.inr ⟨by decide, by decide⟩)
      have e8 := gMul_int (i := sp) (j := 101) (.inr ⟨by decide, by decide⟩)
      refine ⟨m * 31 + (k : Nat) + sp * 101, ?_⟩
      simp only [List.map_nil] at e3
      generalize k % ns.length = r at e4 e5 hm
      generalize k / ns.length = r2 at e6 et
      simp [hl', e3, le_cap_of, h0, e4, e5, e6, et, gRange1_nat (show t ≤ 100000 by omega), el, e7, e8]
theorem mixed (ns : List Int) (k many : Nat) (hk : k < 100000) (hn : ns.length ≤ 63) (h0 : 0 < many) (h : DH) : ∃ i : Nat, i < many ∧ F__law_mixed [.brw (ns.map .int), .int (k : Nat), .int (many : Nat)] h = .ok (.int (i : Nat)) h := by
  obtain ⟨c, ec⟩ := cell_at ns k hk hn h
  have e1 := gMul_int (i := c) (j := 1103515245) (.inr ⟨by decide, by decide⟩)
  have e2 := gMul_int (i := 7919) (j := (k : Nat)) (.inl ⟨by decide, by decide⟩)
  have e3 := gMod_int (i := c * 1103515245 + 7919 * (k : Nat) + 12345) (j := 2147483647) (by decide)
  have b1 : 0 ≤ (c * 1103515245 + 7919 * (k : Nat) + 12345) % 2147483647 := Int.emod_nonneg _ (by decide)
  have b2 : (c * 1103515245 + 7919 * (k : Nat) + 12345) % 2147483647 < 2147483647 := Int.emod_lt_of_pos _ (by decide)
  generalize (c * 1103515245 + 7919 * (k : Nat) + 12345) % 2147483647 = spun at e3 b1 b2
  have e4 := gPow_int (i := spun) (j := 5) ⟨by decide, by decide, by omega⟩
  have e5 := gMod_int (i := spun ^ (5 : Int).toNat) (j := 2147483647) (by decide)
  have e6 := gMod_int (i := spun ^ (5 : Int).toNat % 2147483647) (j := 999983) (by decide)
  have e7 := gMod_int (i := spun ^ (5 : Int).toNat % 2147483647 % 999983) (j := (many : Nat)) (by omega)
  generalize spun ^ (5 : Int).toNat = z at e4 e5 e6 e7
  have b3 : 0 ≤ z % 2147483647 % 999983 % (many : Nat) := Int.emod_nonneg _ (by omega)
  have b4 : z % 2147483647 % 999983 % (many : Nat) < (many : Nat) := Int.emod_lt_of_pos _ (by omega)
  refine ⟨(z % 2147483647 % 999983 % (many : Nat)).toNat, by omega, ?_⟩
  rw [Int.toNat_of_nonneg b3]
  unfold F__law_mixed d__law_mixed
  simp [ec, e1, e2, e3, e4, e5, e6, e7]
theorem draw (ns : List Int) (zs : List DV) (r : DH) (many : Nat) (hz : zs.length < 99990) (hn : ns.length ≤ 63) (h0 : 0 < many) :
    ∃ i : Nat, i < many ∧ F__law_draw [.brw (ns.map .int), .ref 0, .int (many : Nat)] (.lst zs :: r) = .ok (.int (i : Nat)) (.lst (zs ++ [.int 0]) :: r) := by
  obtain ⟨i, hi, e⟩ := mixed ns (zs.length + 1) many (by omega) hn h0 (.lst (zs ++ [.int 0]) :: r)
  refine ⟨i, hi, ?_⟩
  have e1 : isL 1 [.val (.brw (ns.map .int)), .val (.ref 0), .val (.int (many : Nat))] (.lst zs :: r) = true := rfl
  have e2 : mutS 1 (gApp (.int 0)) [.val (.brw (ns.map .int)), .val (.ref 0), .val (.int (many : Nat))] (.lst zs :: r) = .ok (.next [.val (.brw (ns.map .int)), .val (.ref 0), .val (.int (many : Nat))]) (.lst (zs ++ [.int 0]) :: r) := by
    have g : gApp (.int 0) zs = some (zs ++ [.int 0]) := if_pos ⟨rfl, by show zs.length < 100000; omega⟩
    show (match gApp (.int 0) zs with
      | some zs' => Res.ok (Fl.next [SV.val (.brw (ns.map .int)), .val (.ref 0), .val (.int (many : Nat))]) ((HC.lst zs :: r).set 0 (.lst zs'))
      | none => .bad) = _
    rw [g]
    rfl
  have e3 : gLen [.ref 0] (.lst (zs ++ [.int 0]) :: r) = some (.int ((zs.length + 1 : Nat))) := by
    show some (DV.int ((zs ++ [DV.int 0]).length : Nat)) = _
    rw [List.length_append]
    rfl
  unfold F__law_draw d__law_draw
  simp only [runF3, List.replicate, dSeq_ap, dMut_ap, daCons_ap, daNil_ap, dC_ap, bind_ok, ofO_some, one1, e1, e2, chk_true, seq_next, dRet_ap, dCall_ap, dVar_ap, getS_0, getS_s, dFn_ap, e3, e, held_int, finish_ret, Nat.sub_self, List.length_cons, List.length_nil]
  rfl
end M
namespace M
open PySem PySem.Spec PyProof.Rows L2 DL
abbrev Sc (ns : List Int) : DV := .brw (ns.map .int)
theorem pick (ns : List Int) (zs ws : List DV) (r : DH) (hz : zs.length < 99990) (hn : ns.length ≤ 63) (h0 : 0 < ws.length) :
    ∃ w ∈ ws, F__law_pick [Sc ns, .ref 0, .lst ws] (.lst zs :: r) = chk (held w) (.ok w (.lst (zs ++ [.int 0]) :: r)) := by
  obtain ⟨i, hi, e⟩ := draw ns zs r ws.length hz hn h0
  have e2 : gIx (.lst ws) (.int (i : Nat)) = some ws[i] := gIx_nat rfl (by simp [hi])
  refine ⟨ws[i], List.getElem_mem hi, ?_⟩
  unfold F__law_pick d__law_pick
  simp [e, e2]
  cases held ws[i] <;> rfl
def settings9 : List (Int × Int) := [(2, 1), (2, 2), (2, 3), (2, 4), (3, 1), (3, 2), (3, 3), (5, 1), (5, 2)]
abbrev Own (p n : Int) : DV := .tup [.int p, .int n]
structure RowOk (p n : Int) (row : List Int) : Prop where
  len : (row.length : Int) = n
  bd : ∀ x ∈ row, 0 ≤ x ∧ x < p
theorem row_loop (ns : List Int) (r : DH) (p : Nat) (own : DV) (hp : 0 < p) (ho : gIx own (.int 0) = some (.int (p : Nat))) (hn : ns.length ≤ 63) : ∀ (ws : List DV) (zs : List DV), zs.length + ws.length < 99990 →
    ∃ (row : List Int) (zs' : List DV), zs'.length = zs.length + ws.length ∧ row.length = ws.length ∧ (∀ x ∈ row, 0 ≤ x ∧ x < (p : Nat)) ∧
      loopC (tfN 3) dYes (dCall 3 F__law_draw (daCons (dVar 0) (daCons (dVar 1) (daCons (dOp gIx (dVar 2) (dC (.int 0))) daNil)))) [.val (Sc ns), .val (.ref 0), .val own, .un] ws (.lst zs :: r) = .ok (row.map .int) (.lst zs' :: r)
  | [], zs, _ => ⟨[], zs, rfl, rfl, (fun _ h => by cases h), rfl⟩
  | w :: ws, zs, hz => by
    rw [List.length_cons] at hz
    obtain ⟨i, hi, e⟩ := draw ns zs r p (by omega) hn hp
    obtain ⟨row, zs', h1, h2, h3, h4⟩ := row_loop ns r p own hp ho hn ws (zs ++ [.int 0]) (by rw [List.length_append, List.length_singleton]; omega)
    refine ⟨(i : Nat) :: row, zs', by rw [h1, List.length_append, List.length_singleton, List.length_cons]; omega, by rw [List.length_cons, List.length_cons, h2], fun x hx => ?_, ?_⟩
    · rcases List.mem_cons.mp hx with rfl | hx
      · omega
      · exact h3 x hx
    · rw [loopC_cons]
      simp [ho, e, h4]
def settings : List (Int × Int) := [(2, 1), (2, 2), (2, 3), (2, 4), (3, 1), (3, 2), (3, 3), (3, 4), (5, 1), (5, 2)]
theorem by_settings {P : Int → Int → Prop} (h : ∀ q ∈ settings, P q.1 q.2) {p n : Int} (hs : (p, n) ∈ settings) : P p n := h (p, n) hs
theorem is_setting_ok {p n : Int} (hs : (p, n) ∈ settings) (h : DH) : F_is_setting [Own p n] h = .ok (.bl true) h := by
  simp only [settings, List.mem_cons, Prod.mk.injEq, List.not_mem_nil, or_false] at hs
  rcases hs with ⟨rfl, rfl⟩ | ⟨rfl, rfl⟩ | ⟨rfl, rfl⟩ | ⟨rfl, rfl⟩ | ⟨rfl, rfl⟩ | ⟨rfl, rfl⟩ | ⟨rfl, rfl⟩ | ⟨rfl, rfl⟩ | ⟨rfl, rfl⟩ | ⟨rfl, rfl⟩ <;> rfl
theorem check_setting_ok {p n : Int} (hs : (p, n) ∈ settings) (h : DH) : F_check_setting [Own p n] h = .ok .non h := by
  unfold F_check_setting d_check_setting
  simp [is_setting_ok hs]
theorem is_number_int (i lo hi : Int) (h : DH) : F_is_number [.int i, .int lo, .int hi] h = .ok (.bl (decide (lo ≤ i) && decide (i ≤ hi))) h := by
  unfold F_is_number d_is_number
  have e1 : gIsi [.int i, .con (.ty "int")] h = some (.bl true) := rfl
  have e2 : gIsi [.int i, .con (.ty "bool")] h = some (.bl false) := rfl
  simp [e1, e2]
  by_cases h1 : lo ≤ i <;> simp [h1]
theorem is_row_ok {p n : Int} (hs : (p, n) ∈ settings) (row : List Int) (hl : (row.length : Int) = n) (h : DH) : F_is_row [Own p n, R row] h = .ok (.bl (row.all fun x => decide (0 ≤ x) && decide (x ≤ p - 1))) h := by
  have hb : n ≤ 4 := by
    revert hs
    simp only [settings, List.mem_cons, Prod.mk.injEq, List.not_mem_nil, or_false]
    omega
  unfold F_is_row d_is_row
  have e1 : gIsi [R row, .con (.ty "tuple")] h = some (.bl true) := rfl
  have e2 := enc_ne enc_int enc_int (a := n) (b := n)
  rw [decide_eq_true rfl] at e2
  have e3 : loopC (tfN 4) dYes (dCall 3 F_is_number (daCons (dVar 4) (daCons (dC (.int 0)) (daCons (dOp gSub (dVar 2) (dC (.int 1))) daNil)))) [.val (Own p n), .val (R row), .val (.int p), .val (.int n), .un] (row.map .int) h =
      .ok (row.map fun x => DV.bl (decide (0 ≤ x) && decide (x ≤ p - 1))) h := by
    rw [loopC_map (fun w => match w with | .int x => .bl (decide (0 ≤ x) && decide (x ≤ p - 1)) | _ => .non), List.map_map]
    · rfl
    · intro w hw
      obtain ⟨x, hx, rfl⟩ := List.mem_map.mp hw
      exact ⟨_, rfl, by simp [is_number_int], rfl⟩
  have e4 : gAll [.lst (row.map fun x => DV.bl (decide (0 ≤ x) && decide (x ≤ p - 1)))] h = some (.bl (row.all fun x => decide (0 ≤ x) && decide (x ≤ p - 1))) := by
    have e : (row.map fun x => DV.bl (decide (0 ≤ x) && decide (x ≤ p - 1))) = (row.map fun x => decide (0 ≤ x) && decide (x ≤ p - 1)).map DV.bl := by rw [List.map_map]; rfl
    rw [e]
    show (DL.allB _).map _ = _
    rw [DL.allB_map]
    show some (DV.bl ((row.map fun x => decide (0 ≤ x) && decide (x ≤ p - 1)).all id)) = _
    rw [List.all_map]
    rfl
  have e5 : tfT 2 (tfsCons (tfN 2) (tfsCons (tfN 3) tfsNil)) (Own p n) [.val (Own p n), .val (R row), .un, .un, .un] = some [.val (Own p n), .val (R row), .val (.int p), .val (.int n), .un] := rfl
  simp [check_setting_ok hs, e1, e2, hl, e5, wipeD, e3, e4, le_cap_of (show row.length ≤ 100000 by omega)]
theorem is_row_true {p n : Int} (hs : (p, n) ∈ settings) {row : List Int} (hr : RowOk p n row) (h : DH) : F_is_row [Own p n, R row] h = .ok (.bl true) h := by
  rw [is_row_ok hs row hr.len h]
  congr 2
  rw [List.all_eq_true]
  intro x hx
  have := hr.bd x hx
  simp
  omega
def comb (p f : Int) (xs ys : List Int) : List Int := (xs.zip ys).map fun q => (q.1 + f * q.2) % p
def dot (p : Int) (xs ys : List Int) : Int := ((xs.zip ys).map fun q => q.1 * q.2).sum % p
end M
namespace M
open PySem PySem.Spec PyProof.Rows L2 DL
theorem comb_loop (p f : Int) (σ : DSt) (h : DH) (de : DE) (j k : Nat) (hde : ∀ x y : Int, de (setS k (.int y) (setS j (.int x) σ)) h = .ok (.int ((x + f * y) % p)) h) (xs ys : List Int) :
    loopC (tfT 2 (tfsCons (tfN j) (tfsCons (tfN k) tfsNil))) dYes de σ (pairs (xs.map .int) (ys.map .int)) h = .ok ((comb p f xs ys).map .int) h := by
  rw [pairs_map, loopC_map (fun w => match w with | .tup [.int x, .int y] => .int ((x + f * y) % p) | _ => .non)]
  · unfold comb
    rw [List.map_map, List.map_map]
    rfl
  · intro w hw
    obtain ⟨q, hq, rfl⟩ := List.mem_map.mp hw
    exact ⟨_, rfl, hde q.1 q.2, rfl⟩
theorem mul_loop (σ : DSt) (h : DH) (de : DE) (j k : Nat) (xs ys : List Int) (hde : ∀ x y : Int, x ∈ xs → de (setS k (.int y) (setS j (.int x) σ)) h = .ok (.int (x * y)) h) :
    loopC (tfT 2 (tfsCons (tfN j) (tfsCons (tfN k) tfsNil))) dYes de σ (pairs (xs.map .int) (ys.map .int)) h = .ok (((xs.zip ys).map fun q => q.1 * q.2).map .int) h := by
  rw [pairs_map, loopC_map (fun w => match w with | .tup [.int x, .int y] => .int (x * y) | _ => .non)]
  · rw [List.map_map, List.map_map]
    rfl
  · intro w hw
    obtain ⟨q, hq, rfl⟩ := List.mem_map.mp hw
    exact ⟨_, rfl, hde q.1 q.2 (List.of_mem_zip hq).1, rfl⟩
@[simp] theorem zip_tup (c : Bool) (ws zs : List DV) : gZip c [.tup ws, .tup zs] = some (pairs ws zs) := rfl
theorem pairs_le (xs ys : List DV) : (pairs xs ys).length ≤ xs.length := by
  induction xs generalizing ys with
  | nil => exact Nat.le_refl _
  | cons x xs ih =>
    cases ys with
    | nil => exact Nat.zero_le _
    | cons y ys => exact Nat.succ_le_succ (ih ys)
theorem small {p n : Int} (hs : (p, n) ∈ settings) : 2 ≤ p ∧ p ≤ 5 ∧ 1 ≤ n ∧ n ≤ 4 := by
  revert hs
  simp only [settings, List.mem_cons, Prod.mk.injEq, List.not_mem_nil, or_false]
  omega
theorem add_multiple_ok {p f : Int} (hp : 0 < p) (hf : -(2 ^ 64) < f ∧ f < 2 ^ 64) (xs ys : List Int) (hl : xs.length ≤ 100000) (h : DH) : F_add_multiple [.int p, R xs, .int f, R ys] h = .ok (R (comb p f xs ys)) h := by
  unfold F_add_multiple d_add_multiple
  have e := comb_loop p f [.val (.int p), .val (R xs), .val (.int f), .val (R ys), .un, .un] h (dOp gMod (dOp gAdd (dVar 4) (dOp gMul (dVar 2) (dVar 5))) (dVar 0)) 4 5 (fun x y => by
    simp [gMul_int (i := f) (j := y) (.inl hf), gMod_int (i := x + f * y) hp]) xs ys
  have hz : le_cap (pairs (xs.map .int) (ys.map .int)).length = true := le_cap_of (Nat.le_trans (pairs_le _ _) (by rw [List.length_map]; exact hl))
  simp [wipeD, hz, e]
theorem comb_row {p n f : Int} {xs ys : List Int} (hp : 0 < p) (hx : RowOk p n xs) (hy : RowOk p n ys) : RowOk p n (comb p f xs ys) := by
  refine ⟨?_, fun x hx => ?_⟩
  · have h1 := hx.len
    have h2 := hy.len
    unfold comb
    rw [List.length_map, List.length_zip]
    omega
  · obtain ⟨q, _, rfl⟩ := List.mem_map.mp hx
    exact ⟨Int.emod_nonneg _ (by omega), Int.emod_lt_of_pos _ hp⟩
@[simp] theorem gSum_ints (ns : List Int) (h : DH) : gSum [.lst (ns.map .int)] h = some (.int ns.sum) := by
  show (DL.allI _).map _ = _
  rw [DL.allI_map]
  rfl
theorem mul_bd {p n : Int} (hs : (p, n) ∈ settings) {xs : List Int} (hx : RowOk p n xs) (x y : Int) (h : x ∈ xs) : gMul (.int x) (.int y) = some (.int (x * y)) := by
  have h1 := hx.bd x h
  have h2 := small hs
  exact gMul_int (.inl ⟨by omega, by omega⟩)
end M
namespace M
open PySem PySem.Spec PyProof.Rows L2 DL
abbrev Rs (rs : List (List Int)) : List DV := rs.map R
def optI : Option Nat → DV
  | some l => .int (l : Nat)
  | none => .non
theorem isRow_of {P N : Nat} {u : List Int} (h : RowOk (P : Nat) (N : Nat) u) : LA.IsRow P N u := ⟨by have := h.len; omega, fun x hx => h.bd x hx⟩
theorem rowOk_of {P N : Nat} {u : List Int} (h : LA.IsRow P N u) : RowOk (P : Nat) (N : Nat) u := ⟨by rw [h.len], fun x hx => h.rng x hx⟩
theorem lead_loop (r : DV) (h : DH) : ∀ (xs : List Int) (k : Nat) (q1 q2 : SV),
    (∀ l, LA.lead xs = some l → loopF (tfT 2 (tfsCons (tfN 1) (tfsCons (tfN 2) tfsNil))) (dIfS (dOp gNe (dVar 2) (dC (.int 0))) (dRetV 1) dNext) (enumD k (xs.map .int)) [.val r, q1, q2] h = .ok (.ret (.int ((k + l : Nat)))) h) ∧
    (LA.lead xs = none → ∃ q1' q2', loopF (tfT 2 (tfsCons (tfN 1) (tfsCons (tfN 2) tfsNil))) (dIfS (dOp gNe (dVar 2) (dC (.int 0))) (dRetV 1) dNext) (enumD k (xs.map .int)) [.val r, q1, q2] h = .ok (.next [.val r, q1', q2']) h)
  | [], k, q1, q2 => ⟨fun l e => by simp [LA.lead] at e, fun _ => ⟨q1, q2, rfl⟩⟩
  | x :: xs, k, q1, q2 => by
    have e0 : loopF (tfT 2 (tfsCons (tfN 1) (tfsCons (tfN 2) tfsNil))) (dIfS (dOp gNe (dVar 2) (dC (.int 0))) (dRetV 1) dNext) (enumD k ((x :: xs).map .int)) [.val r, q1, q2] h =
        if x = 0 then loopF (tfT 2 (tfsCons (tfN 1) (tfsCons (tfN 2) tfsNil))) (dIfS (dOp gNe (dVar 2) (dC (.int 0))) (dRetV 1) dNext) (enumD (k + 1) (xs.map .int)) [.val r, .val (.int (k : Nat)), .val (.int x)] h
        else .ok (.ret (.int (k : Nat))) h := by
      have en : enumD k ((x :: xs).map .int) = .tup [.int (k : Nat), .int x] :: enumD (k + 1) (xs.map .int) := rfl
      have et : tfT 2 (tfsCons (tfN 1) (tfsCons (tfN 2) tfsNil)) (.tup [.int (k : Nat), .int x]) [.val r, q1, q2] = some [.val r, .val (.int (k : Nat)), .val (.int x)] := rfl
      have ec := enc_ne enc_int enc_int (a := x) (b := 0)
      rw [en, loopF_cons, et]
      by_cases hx : x = 0
      · subst hx; simp [ec]
      · simp [ec, hx]
    obtain ⟨i1, i2⟩ := lead_loop r h xs (k + 1) (.val (.int (k : Nat))) (.val (.int x))
    by_cases hx : x = 0
    · subst hx
      rw [if_pos rfl] at e0
      have el : LA.lead (0 :: xs) = (LA.lead xs).map (· + 1) := by unfold LA.lead; simp [List.findIdx?_cons]
      rw [el, e0]
      constructor
      · intro l e
        obtain ⟨l', e1, rfl⟩ := Option.map_eq_some_iff.mp e
        rw [i1 l' e1]
        congr 4
        omega
      · intro e
        exact i2 (by cases hl : LA.lead xs with
          | none => rfl
          | some l => rw [hl] at e; cases e)
    · rw [if_neg hx] at e0
      have el : LA.lead (x :: xs) = some 0 := by unfold LA.lead; simp [List.findIdx?_cons, hx]
      rw [el, e0]
      exact ⟨fun l e => by cases e; rfl, fun e => by cases e⟩
theorem leading_place_ok (xs : List Int) (h : DH) : F_leading_place [R xs] h = .ok (optI (LA.lead xs)) h := by
  unfold F_leading_place d_leading_place
  obtain ⟨i1, i2⟩ := lead_loop (R xs) h xs 0 .un .un
  have eg : gEnum false [R xs] = some (enumD 0 (xs.map .int)) := rfl
  cases hl : LA.lead xs with
  | some l =>
    have := i1 l hl
    rw [Nat.zero_add] at this
    simp [eg, this]; rfl
  | none =>
    obtain ⟨q1, q2, e⟩ := i2 hl
    simp [eg, e]; rfl
theorem gIx_row {xs : List Int} {l : Nat} (h : l < xs.length) : gIx (R xs) (.int (l : Nat)) = some (.int (LA.ent xs l)) := by
  rw [LA.ent_lt h]
  exact gIx_nat rfl (by simp [h])
section
variable {P N : Nat} [NeZero P]
theorem cleared_ok (hs : (((P : Nat) : Int), ((N : Nat) : Int)) ∈ settings) {row base : List Int} (hr : LA.IsRow P N row) (hb : LA.IsRow P N base) (hl : ∃ l, LA.lead base = some l) (h : DH) : F_cleared [.int (P : Nat), R row, R base] h = .ok (R (LA.clearM P row base)) h := by
  obtain ⟨l, hl⟩ := hl
  obtain ⟨b1, b2, b3, b4⟩ := small hs
  have hlt : l < row.length := by rw [hr.len, ← hb.len]; exact LA.lead_lt hl
  have hin := hr.inR l
  unfold F_cleared d_cleared
  have e1 := add_multiple_ok (p := (P : Nat)) (f := -(LA.ent row l)) (by omega) (by have := hin.1; have := hin.2; omega) row base (by have := hr.len; omega) h
  have e2 : gNeg (.int (LA.ent row l)) = some (.int (-(LA.ent row l))) := rfl
  have e3 : LA.clearM P row base = comb (P : Nat) (-(LA.ent row l)) row base := by unfold LA.clearM; rw [LA.ld_of hl]; rfl
  have e4 := leading_place_ok base h
  rw [hl] at e4
  simp [e4, optI, gIx_row hlt, e2, e1, e3]
theorem remainder_loop (hs : (((P : Nat) : Int), ((N : Nat) : Int)) ∈ settings) (L rw0 : DV) (h : DH) : ∀ (S : List (List Int)) (left : List Int) (q : SV), LA.IsRow P N left → (∀ b ∈ S, LA.IsRow P N b ∧ ∃ l, LA.lead b = some l) →
    ∃ q', loopF (tfN 4) (dSet 3 (dCall 3 F_cleared (daCons (dVar 0) (daCons (dVar 3) (daCons (dVar 4) daNil))))) (Rs S) [.val (.int (P : Nat)), .val L, .val rw0, .val (R left), q] h = .ok (.next [.val (.int (P : Nat)), .val L, .val rw0, .val (R (LA.remM P S left)), q']) h ∧ LA.IsRow P N (LA.remM P S left)
  | [], left, q, hl, _ => ⟨q, rfl, hl⟩
  | b :: S, left, q, hl, hS => by
    obtain ⟨hb, hlb⟩ := hS b List.mem_cons_self
    have hc : LA.IsRow P N (LA.clearM P left b) := LA.isRow_addM hl.len hb.len
    obtain ⟨q', e, e2⟩ := remainder_loop hs L rw0 h S (LA.clearM P left b) (.val (R b)) hc fun c hc => hS c (List.mem_cons_of_mem _ hc)
    refine ⟨q', ?_, e2⟩
    show loopF _ _ (R b :: Rs S) _ h = _
    rw [loopF_cons]
    simp [cleared_ok hs hl hb hlb]
    exact e
theorem remainder_ok (hs : (((P : Nat) : Int), ((N : Nat) : Int)) ∈ settings) {L : DV} {S : List (List Int)} (hL : seqOf L = some (Rs S)) {row : List Int} (hr : LA.IsRow P N row) (hS : ∀ b ∈ S, LA.IsRow P N b ∧ ∃ l, LA.lead b = some l) (h : DH) :
    F_remainder [.int (P : Nat), L, R row] h = .ok (R (LA.remM P S row)) h ∧ LA.IsRow P N (LA.remM P S row) := by
  obtain ⟨q, e, e2⟩ := remainder_loop hs L (R row) h S row .un hr hS
  refine ⟨?_, e2⟩
  unfold F_remainder d_remainder
  simp [hL, e]
theorem good_sub {S : List (List Int)} (G : LA.Good P N S) : ∀ b ∈ S, LA.IsRow P N b ∧ ∃ l, LA.lead b = some l := fun b hb => ⟨G.row b hb, _, (G.ld' hb).1⟩
def invP (P : Nat) (a : Int) : Int := if a = 1 then 1 else if P = 3 then 2 else if a = 2 then 3 else if a = 3 then 2 else 4
theorem prime {p n : Int} (hs : (p, n) ∈ settings) : p = 2 ∨ p = 3 ∨ p = 5 := by
  revert hs
  simp only [settings, List.mem_cons, Prod.mk.injEq, List.not_mem_nil, or_false]
  omega
theorem invP_ok (hs : (((P : Nat) : Int), ((N : Nat) : Int)) ∈ settings) : LA.InvOk P (invP P) := fun a h0 h1 => by
  rcases prime hs with h | h | h
  · have : P = 2 := by omega
    subst this
    have : a = 1 := by omega
    subst this; decide
  · have : P = 3 := by omega
    subst this
    rcases (show a = 1 ∨ a = 2 by omega) with rfl | rfl <;> decide
  · have : P = 5 := by omega
    subst this
    rcases (show a = 1 ∨ a = 2 ∨ a = 3 ∨ a = 4 by omega) with rfl | rfl | rfl | rfl <;> decide
theorem loopW_succ (dt : DE) (db : DS) (n : Nat) (σ : DSt) (h : DH) : loopW dt db (n + 1) σ h = (dt σ h).bind fun w h1 => brB w ((db σ h1).bind (Fl.turn (loopW dt db n) dNext)) (.ok (.next σ) h1) := rfl
theorem inv_loop (hs : (((P : Nat) : Int), ((N : Nat) : Int)) ∈ settings) (r : DV) (q : SV) (a : Int) (h0 : 0 < a) (h1 : a < P) (h : DH) :
    loopW (dOp gNe (dOp gMod (dOp gMul (dVar 3) (dVar 2)) (dVar 0)) (dC (.int 1))) (dAug_add 3 (dC (.int 1))) fuel [.val (.int (P : Nat)), .val r, .val (.int a), .val (.int 1), q] h = .ok (.next [.val (.int (P : Nat)), .val r, .val (.int a), .val (.int (invP P a)), q]) h := by
  have ef : fuel = (fuel - 4) + 1 + 1 + 1 + 1 := by decide
  rw [ef]
  rcases prime hs with hp | hp | hp
  · have : P = 2 := by omega
    subst this
    have : a = 1 := by omega
    subst this; rfl
  · have : P = 3 := by omega
    subst this
    rcases (show a = 1 ∨ a = 2 by omega) with rfl | rfl <;> rfl
  · have : P = 5 := by omega
    subst this
    rcases (show a = 1 ∨ a = 2 ∨ a = 3 ∨ a = 4 by omega) with rfl | rfl | rfl | rfl <;> rfl
theorem with_leading_one_ok (hs : (((P : Nat) : Int), ((N : Nat) : Int)) ∈ settings) {row : List Int} (hr : LA.IsRow P N row) {l : Nat} (hl : LA.lead row = some l) (h : DH) : F_with_leading_one [.int (P : Nat), R row] h = .ok (R (LA.normM P (invP P (LA.ent row l)) row)) h := by
  obtain ⟨b1, b2, b3, b4⟩ := small hs
  have hlt := LA.lead_lt hl
  have hin := hr.inR l
  have hne := (LA.lead_some.mp hl).1
  have el := inv_loop hs (R row) .un (LA.ent row l) (by have := hin.1; omega) hin.2 h
  have e4 := leading_place_ok row h
  rw [hl] at e4
  generalize invP P (LA.ent row l) = f at el ⊢
  have e5 : loopC (tfN 4) dYes (dOp gMod (dOp gMul (dVar 3) (dVar 4)) (dVar 0)) [.val (.int (P : Nat)), .val (R row), .val (.int (LA.ent row l)), .val (.int f), .un] (row.map .int) h = .ok ((LA.normM P f row).map .int) h := by
    rw [loopC_map (fun w => match w with | .int x => .int ((f * x) % (P : Nat)) | _ => .non)]
    · unfold LA.normM
      rw [List.map_map, List.map_map]; rfl
    · intro w hw
      obtain ⟨x, hx, rfl⟩ := List.mem_map.mp hw
      have hx' := hr.rng x hx
      have g1 := gMul_int (i := f) (j := x) (.inr ⟨by have := hx'.1; omega, by have := hx'.2; omega⟩)
      have g2 := gMod_int (i := f * x) (j := (P : Nat)) (by omega)
      exact ⟨_, rfl, by simp [g1, g2], rfl⟩
  have e6 : le_cap row.length = true := le_cap_of (by have := hr.len; omega)
  unfold F_with_leading_one d_with_leading_one
  simp [e4, optI, gIx_row hlt, el, wipeD, e5, e6]
end
end M
namespace M
open PySem PySem.Spec PyProof.Rows L2 DL
theorem loopC_via {α : Type} {tf : TF} {de : DE} {σ : DSt} {h : DH} (enc out : α → DV) : ∀ (S : List α), (∀ c ∈ S, ∃ σ1, tf (enc c) σ = some σ1 ∧ de σ1 h = .ok (out c) h ∧ held (out c) = true) → loopC tf dYes de σ (S.map enc) h = .ok (S.map out) h
  | [], _ => rfl
  | c :: S, hc => by
    obtain ⟨σ1, e1, e2, e3⟩ := hc c List.mem_cons_self
    rw [List.map_cons, loopC_cons, e1]
    simp [e2, e3, loopC_via enc out S fun d hd => hc d (List.mem_cons_of_mem _ hd)]
theorem loopC_pick {α : Type} {tf : TF} {dt de : DE} {σ : DSt} {h : DH} (enc out : α → DV) (p : α → Bool) : ∀ (S : List α), (∀ c ∈ S, ∃ σ1, tf (enc c) σ = some σ1 ∧ dt σ1 h = .ok (.bl (p c)) h ∧ (p c = true → de σ1 h = .ok (out c) h ∧ held (out c) = true)) → loopC tf dt de σ (S.map enc) h = .ok ((S.filter p).map out) h
  | [], _ => rfl
  | c :: S, hc => by
    obtain ⟨σ1, e1, e2, e3⟩ := hc c List.mem_cons_self
    have ih := loopC_pick enc out p S fun d hd => hc d (List.mem_cons_of_mem _ hd)
    rw [List.map_cons, loopC_cons, e1]
    cases hp : p c with
    | true =>
      obtain ⟨e4, e5⟩ := e3 hp
      simp [e2, hp, e4, e5, ih]
    | false => simp [e2, hp, ih]
theorem gAdd_lst {ws zs : List DV} (h : ws.length + zs.length ≤ 100000) : gAdd (.lst ws) (.lst zs) = some (.lst (ws ++ zs)) := by
  have e : gCatL (.lst ws) (.lst zs) = some (.lst (ws ++ zs)) := if_pos h
  show (match gCatL (.lst ws) (.lst zs) with | some w => some w | none => gCatS (.lst ws) (.lst zs)) = _
  rw [e]
theorem gAdd_tup {ws zs : List DV} (h : ws.length + zs.length ≤ 100000) : gAdd (.tup ws) (.tup zs) = some (.tup (ws ++ zs)) := by
  have e : gCatT (.tup ws) (.tup zs) = some (.tup (ws ++ zs)) := if_pos h
  show (match gCatT (.tup ws) (.tup zs) with | some w => some w | none => gOr gCatL gCatS (.tup ws) (.tup zs)) = _
  rw [e]
theorem dataLe_rowsT : PySem.W.dataLe false dT = fun a b : List Int => decide (a ≤ b) := PySem.W.dataLe_rows (β := List Int) fun b => b
theorem sortT_perm (xs : List (List Int)) : (sortT xs).Perm xs := List.mergeSort_perm _ _
theorem sortT_sorted (xs : List (List Int)) : (sortT xs).Pairwise (· ≤ ·) := by
  unfold sortT
  rw [dataLe_rowsT]
  exact (List.pairwise_mergeSort (le := fun a b : List Int => decide (a ≤ b)) (fun a b c h1 h2 => by
    simp only [decide_eq_true_eq] at *; exact List.le_trans h1 h2) (fun a b => by
    simp only [Bool.or_eq_true, decide_eq_true_eq]; exact List.le_total a b) xs).imp fun h => by simpa using h
theorem sortT_eq {xs ys : List (List Int)} (hx : xs.Nodup) (hy : ys.Nodup) (h : ∀ a, a ∈ xs ↔ a ∈ ys) : sortT xs = sortT ys :=
  List.Perm.eq_of_pairwise (le := (· ≤ ·)) (fun a b _ _ h1 h2 => List.le_antisymm h1 h2) (sortT_sorted xs) (sortT_sorted ys)
    ((sortT_perm xs).trans (((List.perm_ext_iff_of_nodup hx hy).mpr h).trans (sortT_perm ys).symm))
theorem toPys_rows (W : List (List Int)) : toPys (Rs W) = some (W.map dT) := DL.toPys_map R dT (fun a => (enc_tup enc_int).py a) W
theorem okSort_rows {W : List (List Int)} (h : ∀ w ∈ W, w ≠ []) : okSort (W.map dT) = true := by
  unfold okSort
  rw [Bool.and_eq_true, Bool.and_eq_true, Bool.or_eq_true]
  refine ⟨?_, .inl ?_, ?_⟩
  · rw [List.all_eq_true]
    intro d hd
    rw [List.all_eq_true]
    intro d' hd'
    obtain ⟨w, _, rfl⟩ := List.mem_map.mp hd
    obtain ⟨w', _, rfl⟩ := List.mem_map.mp hd'
    exact PySem.W.alike_ints w w'
  · rw [List.all_eq_true]
    intro d hd
    obtain ⟨w, hw, rfl⟩ := List.mem_map.mp hd
    cases w with
    | nil => exact absurd rfl (h [] hw)
    | cons x w => rfl
  · rw [List.all_eq_true]
    intro d hd
    obtain ⟨w, _, rfl⟩ := List.mem_map.mp hd
    have : (dT w).depth = PyData.depthAll (w.map .int) + 1 := rfl
    rw [this, PySem.W.depth_ints]; decide
theorem gSorted_rows {W : List (List Int)} (hw : ∀ w ∈ W, w ≠ []) (h : DH) : gSorted [.lst (Rs W)] h = some (.lst (Rs (sortT W))) := by
  show ((toPys (Rs W)).bind fun ds => if okSort ds = true then some (DV.lst (sortD (Rs W) ds)) else none) = _
  rw [toPys_rows]
  show (if okSort (W.map dT) = true then some (DV.lst (sortD (Rs W) (W.map dT))) else none) = _
  rw [if_pos (okSort_rows hw)]
  congr 2
  unfold sortD sortT
  have ez : (Rs W).zip (W.map dT) = W.map fun w => (R w, dT w) := by
    induction W with
    | nil => rfl
    | cons w W ih => exact congrArg (_ :: ·) (ih fun u hu => hw u (List.mem_cons_of_mem _ hu))
  rw [ez, ← List.map_mergeSort (r := PySem.W.dataLe false dT) (f := fun w : List Int => (R w, dT w)) fun _ _ _ _ => rfl, List.map_map]
  rfl
section
variable {P N : Nat} [NeZero P]
theorem reduced_body (hs : (((P : Nat) : Int), ((N : Nat) : Int)) ∈ settings) (L : DV) (h : DH) {found : List (List Int)} (G : LA.Good P N found) {row : List Int} (hr : LA.IsRow P N row) (hcap : found.length ≤ 4) (q3 q4 q5 q6 : SV) :
    ∃ q4' q5' q6', (dSeq (dSet 4 (dCall 3 F_remainder (daCons (dVar 0) (daCons (dVar 2) (daCons (dVar 3) daNil)))))
  (dIfS (dOp gIsNot (dCall 1 F_leading_place (daCons (dVar 4) daNil)) (dC .non)) (dSeq (dSet 5 (dCall 2 F_with_leading_one (daCons (dVar 0) (daCons (dVar 4) daNil))))
  (dSet 2 (dOp gAdd (dComp (dSeqOf (dVar 2)) (tfN 6) dYes (dCall 3 F_cleared (daCons (dVar 0) (daCons (dVar 6) (daCons (dVar 5) daNil)))) [6]) (dLst (daCons (dVar 5) daNil))))) dNext)) [.val (.int (P : Nat)), .val L, .val (.lst (Rs found)), .val (R row), q4, q5, q6] h =
      .ok (.next [.val (.int (P : Nat)), .val L, .val (.lst (Rs (LA.redStep P (invP P) found row))), .val (R row), q4', q5', q6']) h := by
  obtain ⟨er, hrem⟩ := remainder_ok hs (L := .lst (Rs found)) (S := found) rfl hr (good_sub G) h
  have el := leading_place_ok (LA.remM P found row) h
  unfold LA.redStep
  cases hl : LA.lead (LA.remM P found row) with
  | none =>
    rw [hl] at el
    refine ⟨.val (R (LA.remM P found row)), q5, q6, ?_⟩
    have e1 : gIsNot .non .non = some (.bl false) := rfl
    simp [er, el, optI, e1]
  | some l =>
    rw [hl] at el
    dsimp only
    have ew := with_leading_one_ok hs hrem hl h
    have hin := hrem.inR l
    have hne := (LA.lead_some.mp hl).1
    have ha := invP_ok hs (LA.ent (LA.remM P found row) l) (by have := hin.1; omega) hin.2
    obtain ⟨n1, n2, n3, n4⟩ := LA.norm_ok hrem hl ha
    generalize LA.normM P (invP P (LA.ent (LA.remM P found row) l)) (LA.remM P found row) = base at ew n1 n2 n3 n4 ⊢
    refine ⟨.val (R (LA.remM P found row)), .val (R base), q6, ?_⟩
    have e1 : gIsNot (.int (l : Nat)) .non = some (.bl true) := rfl
    have e2 : loopC (tfN 6) dYes (dCall 3 F_cleared (daCons (dVar 0) (daCons (dVar 6) (daCons (dVar 5) daNil)))) [.val (.int (P : Nat)), .val L, .val (.lst (Rs found)), .val (R row), .val (R (LA.remM P found row)), .val (R base), .un] (found.map R) h = .ok (found.map fun c => R (LA.clearM P c base)) h :=
      loopC_via R (fun c => R (LA.clearM P c base)) found fun c hc => ⟨_, rfl, by simp [cleared_ok hs (G.row c hc) n1 ⟨l, n3⟩], rfl⟩
    have e3 : gAdd (.lst (found.map fun c => R (LA.clearM P c base))) (.lst [R base]) = some (.lst (Rs (LA.stepM P found base))) := by
      have : Rs (LA.stepM P found base) = (found.map fun c => R (LA.clearM P c base)) ++ [R base] := by unfold LA.stepM Rs; rw [List.map_append, List.map_map]; rfl
      rw [this]
      have hc : (found.map fun c => R (LA.clearM P c base)).length + [R base].length ≤ cap := by rw [List.length_map]; show found.length + 1 ≤ 100000; omega
      exact gAdd_lst (by rw [List.length_map]; show found.length + 1 ≤ 100000; omega)
    have e4 : le_cap found.length = true := le_cap_of (by omega)
    simp [er, el, optI, e1, ew, wipeD, e2, e3, e4, le_cap_of]
theorem good_len {found : List (List Int)} (G : LA.Good P N found) : found.length ≤ N := by
  have := LA.frees_length G; omega
theorem reduced_loop (hs : (((P : Nat) : Int), ((N : Nat) : Int)) ∈ settings) (L : DV) (h : DH) : ∀ (S : List (List Int)) (found : List (List Int)), LA.Good P N found → (∀ b ∈ S, LA.IsRow P N b) → ∀ (q3 q4 q5 q6 : SV),
    ∃ q3' q4' q5' q6', loopF (tfN 3) (dSeq (dSet 4 (dCall 3 F_remainder (daCons (dVar 0) (daCons (dVar 2) (daCons (dVar 3) daNil)))))
  (dIfS (dOp gIsNot (dCall 1 F_leading_place (daCons (dVar 4) daNil)) (dC .non)) (dSeq (dSet 5 (dCall 2 F_with_leading_one (daCons (dVar 0) (daCons (dVar 4) daNil))))
  (dSet 2 (dOp gAdd (dComp (dSeqOf (dVar 2)) (tfN 6) dYes (dCall 3 F_cleared (daCons (dVar 0) (daCons (dVar 6) (daCons (dVar 5) daNil)))) [6]) (dLst (daCons (dVar 5) daNil))))) dNext)) (Rs S) [.val (.int (P : Nat)), .val L, .val (.lst (Rs found)), q3, q4, q5, q6] h =
      .ok (.next [.val (.int (P : Nat)), .val L, .val (.lst (Rs (S.foldl (LA.redStep P (invP P)) found))), q3', q4', q5', q6']) h
  | [], found, _, _, q3, q4, q5, q6 => ⟨q3, q4, q5, q6, rfl⟩
  | row :: S, found, G, hS, q3, q4, q5, q6 => by
    have hr := hS row List.mem_cons_self
    obtain ⟨_, _, _, b4⟩ := small hs
    obtain ⟨q4', q5', q6', e⟩ := reduced_body hs L h G hr (by have := good_len G; omega) (.val (R row)) q4 q5 q6
    have G' := (LA.redStep_ok (invP_ok hs) G hr).1
    obtain ⟨a3, a4, a5, a6, ih⟩ := reduced_loop hs L h S _ G' (fun b hb => hS b (List.mem_cons_of_mem _ hb)) (.val (R row)) q4' q5' q6'
    refine ⟨a3, a4, a5, a6, ?_⟩
    show loopF _ _ (R row :: Rs S) _ h = _
    rw [loopF_cons, tfN_ap, ofO_some, bind_ok]
    have es : setS 3 (R row) [SV.val (.int (P : Nat)), .val L, .val (.lst (Rs found)), q3, q4, q5, q6] = [.val (.int (P : Nat)), .val L, .val (.lst (Rs found)), .val (R row), q4, q5, q6] := rfl
    rw [es, e, bind_ok, turn_next]
    exact ih
theorem keysD_lead : ∀ {found : List (List Int)}, (∀ b ∈ found, ∃ l, LA.lead b = some l) → keysD F_leading_place (Rs found) = some (found.map fun b => ((LA.ld b : Nat) : Int))
  | [], _ => rfl
  | b :: found, hb => by
    obtain ⟨l, hl⟩ := hb b List.mem_cons_self
    show ((key1 (F_leading_place [R b] [])).bind fun k => (keysD F_leading_place (Rs found)).map fun ks => k :: ks) = _
    rw [leading_place_ok, hl, keysD_lead fun c hc => hb c (List.mem_cons_of_mem _ hc)]
    show some (((l : Nat) : Int) :: _) = some (((LA.ld b : Nat) : Int) :: _)
    rw [LA.ld_of hl]
theorem sortK_rows (found : List (List Int)) : sortK (Rs found) (found.map fun b => ((LA.ld b : Nat) : Int)) = Rs (LA.sortL found) := by
  unfold sortK LA.sortL
  have ez : (Rs found).zip (found.map fun b => ((LA.ld b : Nat) : Int)) = found.map fun w => (R w, ((LA.ld w : Nat) : Int)) := by
    induction found with
    | nil => rfl
    | cons w W ih => exact congrArg (_ :: ·) ih
  rw [ez, ← List.map_mergeSort (r := fun a b : List Int => decide (LA.ld a ≤ LA.ld b)) (f := fun w : List Int => (R w, ((LA.ld w : Nat) : Int))) fun a _ b _ => by simp, List.map_map]
  rfl
theorem reduced_rows_ok (hs : (((P : Nat) : Int), ((N : Nat) : Int)) ∈ settings) {L : DV} {S : List (List Int)} (hL : seqOf L = some (Rs S)) (hS : LA.Rows P N S) (h : DH) : F_reduced_rows [.int (P : Nat), L] h = .ok (.tup (Rs (LA.redM P (invP P) S))) h := by
  obtain ⟨q3, q4, q5, q6, e⟩ := reduced_loop hs L h S [] LA.good_nil hS .un .un .un .un
  obtain ⟨G, _⟩ := LA.redU_ok (invP_ok hs) S hS
  have e2 : dSortKey F_leading_place (dVar 2) [.val (.int (P : Nat)), .val L, .val (.lst (Rs (LA.redU P (invP P) S))), q3, q4, q5, q6] h = .ok (.lst (Rs (LA.redM P (invP P) S))) h := by
    show (ofO ((toPys (Rs (LA.redU P (invP P) S))).bind fun _ => (keysD F_leading_place (Rs (LA.redU P (invP P) S))).map fun ks => DV.lst (sortK (Rs (LA.redU P (invP P) S)) ks)) h) = _
    rw [toPys_rows, keysD_lead fun b hb => ⟨_, (G.ld' hb).1⟩]
    show Res.ok (DV.lst (sortK (Rs (LA.redU P (invP P) S)) _)) h = _
    rw [sortK_rows]; rfl
  have e0 : loopF (tfN 3) _ (Rs S) [.val (.int (P : Nat)), .val L, .val (.lst []), .un, .un, .un, .un] h = _ := e
  unfold F_reduced_rows d_reduced_rows
  simp [hL, e0, le_cap_of]
  have e2' : dSortKey F_leading_place (dVar 2) [.val (.int (P : Nat)), .val L, .val (.lst (Rs (List.foldl (LA.redStep P (invP P)) [] S))), q3, q4, q5, q6] h = .ok (.lst (Rs (LA.redM P (invP P) S))) h := e2
  rw [e2']
  simp
end
end M
namespace M
open PySem PySem.Spec PyProof.Rows L2 DL
abbrev OwN (P N : Nat) : DV := Own (P : Nat) (N : Nat)
section
variable {P N : Nat} [NeZero P]
def inB (P : Nat) (S : List (List Int)) (row : List Int) : Bool := decide (LA.lead (LA.remM P S row) = none)
theorem inB_iff {S : List (List Int)} (G : LA.Good P N S) {row : List Int} (hr : LA.IsRow P N row) : inB P S row = true ↔ LA.Mem P N S row := by
  unfold inB
  rw [decide_eq_true_eq, LA.rem_zero G hr]
theorem gAll_bools {α : Type} (S : List α) (b : α → Bool) (h : DH) : gAll [.lst (S.map fun a => .bl (b a))] h = some (.bl (S.all b)) := by
  have e : (S.map fun a => DV.bl (b a)) = (S.map b).map DV.bl := by rw [List.map_map]; rfl
  rw [e]
  show (DL.allB _).map _ = _
  rw [DL.allB_map]
  show some (DV.bl ((S.map b).all id)) = _
  rw [List.all_map]; rfl
theorem red_len (hs : (((P : Nat) : Int), ((N : Nat) : Int)) ∈ settings) {S : List (List Int)} (G : LA.Good P N S) : S.length ≤ 4 := by
  obtain ⟨_, _, _, b4⟩ := small hs
  have := good_len G; omega
theorem inside_iff {S T : List (List Int)} (D : LA.Red P N S) (D' : LA.Red P N T) : S.all (inB P T) = true ↔ ∀ w, LA.Mem P N S w → LA.Mem P N T w := by
  rw [List.all_eq_true]
  constructor
  · intro h w hw
    exact hw.trans fun u hu => (inB_iff D'.good (D.good.row u hu)).mp (h u hu)
  · intro h u hu
    exact (inB_iff D'.good (D.good.row u hu)).mpr (h u (LA.Mem.of D.good.row hu))
theorem gMulT_zero {n : Nat} (h1 : 1 ≤ n) (h2 : n ≤ 4) : gMulT (.tup [.int 0]) (.int (n : Nat)) = some (R (LA.zero n)) := by
  rcases (show n = 1 ∨ n = 2 ∨ n = 3 ∨ n = 4 by omega) with rfl | rfl | rfl | rfl <;> rfl
theorem loopC2_flat {α β : Type} {tf tf1 : TF} {src1 : DA} {de : DE} {vs1 : List Nat} {σ : DSt} {h : DH} (enc : α → DV) (enc1 : β → DV) (out : α → β → DV) (ys : List β) (hy : ys.length ≤ 300) : ∀ (S : List α),
    (∀ c ∈ S, ∃ σ1, tf (enc c) σ = some σ1 ∧ src1 σ1 h = .ok (ys.map enc1) h ∧ ∀ b ∈ ys, ∃ σ2, tf1 (enc1 b) (wipeD σ1 vs1) = some σ2 ∧ de σ2 h = .ok (out c b) h ∧ held (out c b) = true) →
    loopC2 tf dYes src1 tf1 dYes de vs1 σ (S.map enc) h = .ok (S.flatMap fun c => ys.map (out c)) h
  | [], _ => rfl
  | c :: S, hc => by
    obtain ⟨σ1, e1, e2, e3⟩ := hc c List.mem_cons_self
    have ih := loopC2_flat enc enc1 out ys hy S fun d hd => hc d (List.mem_cons_of_mem _ hd)
    have i1 := loopC_via (tf := tf1) (de := de) (σ := wipeD σ1 vs1) (h := h) enc1 (out c) ys e3
    show (ofO (tf (enc c) σ) h).bind _ = _
    rw [e1]
    rw [ofO_some, bind_ok]
    have e4 : decide ((ys.map enc1).length ≤ 300) = true := by rw [List.length_map]; exact decide_eq_true hy
    simp only [dYes_ap, bind_ok, brB_true, e2, e4, chk_true, i1, ih, List.flatMap_cons]
theorem intsFrom_map : ∀ (n : Nat) (lo : Nat), intsFrom (lo : Nat) n = (List.range n).map fun f => DV.int ((lo + f : Nat) : Int)
  | 0, _ => rfl
  | n + 1, lo => by
    show DV.int (lo : Nat) :: intsFrom ((lo : Int) + 1) n = _
    have := intsFrom_map n (lo + 1)
    rw [show ((lo + 1 : Nat) : Int) = (lo : Int) + 1 by omega] at this
    rw [this, List.range_succ_eq_map, List.map_cons, List.map_map]
    congr 1
    exact List.map_congr_left fun f _ => by simp; omega
theorem row_ne (hs : (((P : Nat) : Int), ((N : Nat) : Int)) ∈ settings) {w : List Int} (h : LA.IsRow P N w) : w ≠ [] := fun e => by
  obtain ⟨_, _, b3, _⟩ := small hs
  have := h.len
  rw [e] at this
  simp at this; omega
end
end M
namespace M
open PySem PySem.Spec PyProof.Rows L2 DL
theorem go {s1 s2 : DS} {σ σ' : DSt} {h h' : DH} {X : Res Fl} (h1 : s1 σ h = .ok (.next σ') h') (h2 : s2 σ' h' = X) : dSeq s1 s2 σ h = X := by
  rw [dSeq_ap, h1]
  exact h2
theorem enc_bool : Enc DV.bl PyData.bool 0 := ⟨fun _ => rfl, fun _ => rfl, fun _ => Nat.le_refl _, fun a b => by cases a <;> cases b <;> rfl⟩
theorem in10' {p n : Int} (h : (p, n) ∈ settings9) : (p, n) ∈ settings := by
  revert h
  simp only [settings, settings9, List.mem_cons, Prod.mk.injEq, List.not_mem_nil, or_false]
  intro h
  rcases h with h | h | h | h | h | h | h | h | h <;> simp [h]
section
variable {P N : Nat} [NeZero P]
theorem pow_le (hs : (((P : Nat) : Int), ((N : Nat) : Int)) ∈ settings) : P ^ N ≤ 81 := by
  have : ∀ q ∈ settings, q.1.toNat ^ q.2.toNat ≤ 81 := by decide
  have := this _ hs
  simpa using this
theorem all_rows {S : List (List Int)} (hp : 1 < P) (D : LA.Red P N S) : (sortT (LA.combos P N S)).Nodup ∧ ∀ w, w ∈ sortT (LA.combos P N S) ↔ LA.Mem P N S w :=
  ⟨(sortT_perm _).nodup_iff.mpr (LA.nodup_combos hp S D.good.own), fun w => by rw [(sortT_perm _).mem_iff, LA.mem_combos S D.good.row]⟩
end
end M
namespace M
open PySem PySem.Spec PyProof.Rows L2 DL
section
variable {P N : Nat} [NeZero P]
def allE (P : Nat) : Nat → List (List Int)
  | 0 => [[]]
  | n + 1 => (allE P n).flatMap fun w => (List.range P).map fun x => w ++ [((x : Nat) : Int)]
theorem allE_len (P : Nat) : ∀ n, (allE P n).length = P ^ n
  | 0 => rfl
  | n + 1 => by
    show ((allE P n).flatMap fun w => (List.range P).map fun x => w ++ [((x : Nat) : Int)]).length = _
    rw [List.length_flatMap]
    simp only [List.length_map, List.length_range, List.map_const', List.sum_replicate_nat, allE_len P n]
    rw [Nat.pow_succ]
theorem allE_mem {P : Nat} : ∀ {n : Nat} {w : List Int}, w ∈ allE P n ↔ LA.IsRow P n w
  | 0, w => by
    constructor
    · intro h
      rw [List.mem_singleton.mp h]
      exact ⟨rfl, fun x hx => nomatch hx⟩
    · intro h
      have := h.len
      cases w with
      | nil => exact List.mem_singleton.mpr rfl
      | cons _ _ => simp at this
  | n + 1, w => by
    constructor
    · intro h
      obtain ⟨u, hu, hx⟩ := List.mem_flatMap.mp h
      obtain ⟨x, hx', rfl⟩ := List.mem_map.mp hx
      have hu := allE_mem.mp hu
      have hx := List.mem_range.mp hx'
      refine ⟨by rw [List.length_append, hu.len, List.length_singleton], fun y hy => ?_⟩
      rcases List.mem_append.mp hy with hy | hy
      · exact hu.rng y hy
      · rw [List.mem_singleton] at hy
        subst hy
        constructor <;> omega
    · intro h
      have hl := h.len
      rcases List.eq_nil_or_concat w with rfl | ⟨u, x, rfl⟩
      · simp at hl
      · rw [List.concat_eq_append] at h hl ⊢
        have hx := h.rng x (by simp)
        refine List.mem_flatMap.mpr ⟨u, allE_mem.mpr ⟨by simpa using hl, fun y hy => h.rng y (by simp [hy])⟩, ?_⟩
        exact List.mem_map.mpr ⟨x.toNat, List.mem_range.mpr (by have := hx.1; have := hx.2; omega), by rw [Int.toNat_of_nonneg hx.1]⟩
theorem allE_nodup (P : Nat) : ∀ n, (allE P n).Nodup
  | 0 => List.nodup_cons.mpr ⟨by simp, List.nodup_nil⟩
  | n + 1 => by
    have ih := allE_nodup P n
    show ((allE P n).flatMap fun w => (List.range P).map fun x => w ++ [((x : Nat) : Int)]).Nodup
    unfold List.Nodup
    rw [List.pairwise_flatMap]
    refine ⟨fun u _ => ?_, ih.imp fun {a b} hab x hx y hy e => ?_⟩
    · rw [List.pairwise_map]
      exact List.nodup_range.imp fun {a b} hab e => hab (by
        have := List.append_cancel_left e
        injection this with h1 _
        omega)
    · obtain ⟨i, _, rfl⟩ := List.mem_map.mp hx
      obtain ⟨j, _, rfl⟩ := List.mem_map.mp hy
      have := List.append_inj_left' e rfl
      exact hab this
end
end M
namespace M
open PySem PySem.Spec PyProof.Rows L2 DL
def sets6 : List (Nat × Nat) := [(2, 1), (2, 2), (2, 3), (3, 1), (3, 2), (5, 1)]
def listsK (P N : Nat) : Nat → List (List (List Int))
  | 0 => [[]]
  | k + 1 => (listsK P N k).flatMap fun L => (allE P N).map fun r => L ++ [r]
def everyU (P N : Nat) : List (List (List Int)) := (List.range (N + 1)).flatMap fun k => LA.allU P N k
def spanK (P N : Nat) (L : List (List Int)) : Option (List (List Int)) := (everyU P N).find? fun S => LA.mask P N L == LA.mask P N S
def eachK (P k : Nat) : Nat := (List.range k).foldl (fun a i => a * (P ^ k - P ^ i)) 1
def totalK (P N k : Nat) : Nat := (List.range k).foldl (fun a i => a * (P ^ N - P ^ i)) 1
theorem spans_known : ∀ q ∈ sets6, ∀ k ∈ [1, 2], k ≤ q.2 → ∀ L ∈ listsK q.1 q.2 k, (spanK q.1 q.2 L).isSome = true ∧ LA.rowsB q.1 q.2 L = true := by decide +kernel
theorem counts_known : ∀ q ∈ sets6, ∀ k ∈ [1, 2], k ≤ q.2 → ∀ S ∈ LA.allU q.1 q.2 k, ((listsK q.1 q.2 k).filter fun L => spanK q.1 q.2 L == some S).length = eachK q.1 k := by decide +kernel
theorem each_pos : ∀ q ∈ sets6, ∀ k ∈ [1, 2], k ≤ q.2 → 0 < eachK q.1 k ∧ (LA.allU q.1 q.2 k).length * eachK q.1 k = totalK q.1 q.2 k ∧ (listsK q.1 q.2 k).length ≤ 81 := by decide +kernel
section
variable {P N : Nat} [NeZero P] {inv : Int → Int}
theorem span_known (hp : 1 < P) (hi : LA.InvOk P inv) (hn : N ≤ 4) {L S : List (List Int)} (hr : LA.rowsB P N L = true) (e : spanK P N L = some S) : LA.redM P inv L = S ∧ ∃ k, k ≤ N ∧ S ∈ LA.allU P N k := by
  unfold spanK at e
  have h1 := List.find?_some e
  have h2 := List.mem_of_find?_eq_some e
  unfold everyU at h2
  obtain ⟨k, hk, hS⟩ := List.mem_flatMap.mp h2
  have hk : k ≤ N := by have := List.mem_range.mp hk; omega
  exact ⟨(LA.known hp hi hn hk hS hr (beq_iff_eq.mp h1)).1, k, hk, hS⟩
end
end M
namespace M
open PySem PySem.Spec PyProof.Rows L2 DL
section
variable {P N : Nat} [NeZero P]
theorem span_ok (hs : (((P : Nat) : Int), ((N : Nat) : Int)) ∈ settings) {W : List (List Int)} (hW : LA.Rows P N W) (hl : W.length ≤ 12) (h : DH) : F_span [OwN P N, .lst (Rs W)] h = .ok (Sp' (LA.redM P (invP P) W)) h := by
  have e1 : loopC (tfN 2) dYes (dCall 2 F_is_row (daCons (dVar 0) (daCons (dVar 2) daNil))) [.val (OwN P N), .val (.lst (Rs W)), .un] (W.map R) h = .ok (W.map fun _ => .bl true) h :=
    loopC_via R (fun _ => .bl true) W fun w hw => ⟨_, rfl, by simp [is_row_true hs (rowOk_of (hW w hw))], rfl⟩
  have e2 := gAll_bools W (fun _ => true) h
  have e3 : (W.all fun _ => true) = true := by rw [List.all_eq_true]; intro _ _; rfl
  rw [e3] at e2
  have e4 : gIsi [.lst (Rs W), .con (.ty "list")] h = some (.bl true) := rfl
  have e5 : gIx (OwN P N) (.int 0) = some (.int (P : Nat)) := rfl
  have e6 := reduced_rows_ok hs (L := .lst (Rs W)) (S := W) rfl hW h
  have e7 : ¬ 12 < ((W.length : Nat) : Int) := by omega
  unfold F_span d_span
  simp [check_setting_ok hs, e4, wipeD, le_cap_of (show W.length ≤ 100000 by omega), e1, e2, e5, e6, e7]
end
end M
namespace M
open PySem PySem.Spec PyProof.Rows L2 DL
section
variable {P N : Nat} [NeZero P]
theorem every_inner (hp : P ≤ 5) (h : DH) (k : Nat) (a1 : SV) (own : DV) (he : gIx own (.int 0) = some (.int (P : Nat))) (hk : k ≤ 4) : ∀ (W done : List (List Int)) (q2 q4 q5 : SV), (∀ w ∈ W, w.length ≤ 4) → done.length + W.length * P ≤ 1000 →
    ∃ q4' q5', loopF (tfN 4) (dMut 3 gExt (daCons (dComp (dSrc gRange1 (daCons (dOp gIx (dVar 0) (dC (.int 0))) daNil)) (tfN 5) dYes (dOp gAdd (dVar 4) (dTup (daCons (dVar 5) daNil))) [5]) daNil)) (Rs W)
      [.val own, a1, q2, .own (Rs done), q4, q5] h = .ok (.next [.val own, a1, q2, .own (Rs (done ++ W.flatMap fun w => (List.range P).map fun x => w ++ [((x : Nat) : Int)])), q4', q5']) h
  | [], done, q2, q4, q5, _, _ => ⟨q4, q5, by simp⟩
  | w :: W, done, q2, q4, q5, hw, hl => by
    rw [List.length_cons, Nat.add_mul] at hl
    have hwl := hw w List.mem_cons_self
    have er := gRange1_nat (n := P) (by omega)
    have e0 := intsFrom_map P 0
    simp only [Nat.zero_add] at e0
    have e0' : intsFrom 0 P = (List.range P).map fun f => DV.int (f : Nat) := e0
    have e1 : loopC (tfN 5) dYes (dOp gAdd (dVar 4) (dTup (daCons (dVar 5) daNil))) [.val own, a1, q2, .own (Rs done), .val (R w), .un] ((List.range P).map fun f => DV.int (f : Nat)) h = .ok ((List.range P).map fun x => R (w ++ [((x : Nat) : Int)])) h :=
      loopC_via (fun f : Nat => DV.int (f : Nat)) (fun x => R (w ++ [((x : Nat) : Int)])) (List.range P) fun x hx => ⟨_, rfl, by
        have e := gAdd_tup (ws := w.map DV.int) (zs := [.int (x : Nat)]) (by rw [List.length_map, List.length_singleton]; omega)
        have e' : gAdd (R w) (.tup [.int (x : Nat)]) = some (R (w ++ [((x : Nat) : Int)])) := by rw [e]; simp
        simp [le_cap_of (show 1 ≤ 100000 by omega), e'], rfl⟩
    obtain ⟨q4', q5', ih⟩ := every_inner hp h k a1 own he hk W (done ++ (List.range P).map fun x => w ++ [((x : Nat) : Int)]) q2 (.val (R w)) q5 (fun u hu => hw u (List.mem_cons_of_mem _ hu)) (by rw [List.length_append, List.length_map, List.length_range]; omega)
    refine ⟨q4', q5', ?_⟩
    rw [List.flatMap_cons, ← List.append_assoc, ← ih]
    show loopF _ _ (R w :: Rs W) _ h = _
    have e2 : (List.range P).map (fun x => R (w ++ [((x : Nat) : Int)])) = Rs ((List.range P).map fun x => w ++ [((x : Nat) : Int)]) := by
      show _ = List.map R _
      rw [List.map_map]; rfl
    have e3 : gExt (.lst (Rs ((List.range P).map fun x => w ++ [((x : Nat) : Int)]))) (Rs done) = some (Rs (done ++ (List.range P).map fun x => w ++ [((x : Nat) : Int)])) := by
      have hc : (Rs done).length + (Rs ((List.range P).map fun x => w ++ [((x : Nat) : Int)])).length ≤ cap := by
        show (List.map R done).length + (List.map R _).length ≤ 100000
        rw [List.length_map, List.length_map, List.length_map, List.length_range]; omega
      show (if (Rs done).length + (Rs ((List.range P).map fun x => w ++ [((x : Nat) : Int)])).length ≤ cap then some (Rs done ++ Rs ((List.range P).map fun x => w ++ [((x : Nat) : Int)])) else none) = _
      rw [if_pos hc]
      show some (List.map R _ ++ List.map R _) = some (List.map R _)
      rw [List.map_append]
    rw [e2] at e1
    have c1 : le_cap P = true := le_cap_of (by omega)
    rw [loopF_cons, tfN_ap, ofO_some, bind_ok, dMut_ap]
    have ei : isL 3 [.val own, a1, q2, .own (Rs done), .val (R w), q5] h = true := rfl
    have em : mutS 3 (gExt (.lst (Rs ((List.range P).map fun x => w ++ [((x : Nat) : Int)])))) [.val own, a1, q2, .own (Rs done), .val (R w), q5] h = .ok (.next [.val own, a1, q2, .own (Rs (done ++ (List.range P).map fun x => w ++ [((x : Nat) : Int)])), .val (R w), q5]) h := by
      show (match gExt (.lst (Rs ((List.range P).map fun x => w ++ [((x : Nat) : Int)]))) (Rs done) with
        | some zs => Res.ok (Fl.next (setO 3 zs [.val own, a1, q2, .own (Rs done), .val (R w), q5])) h
        | none => Res.bad) = _
      rw [e3]; rfl
    simp [-List.map_map, -List.map_append, wipeD, er, e0', he, e1, c1, ei, em]
    have eo : one1 [DV.lst (Rs ((List.range P).map fun x => w ++ [((x : Nat) : Int)]))] = some (.lst (Rs ((List.range P).map fun x => w ++ [((x : Nat) : Int)]))) := rfl
    rw [eo, ofO_some, bind_ok, em, bind_ok, turn_next]
theorem every_outer (hp : P ≤ 5) (hN : N ≤ 4) (hb : P ^ N ≤ 81) (h : DH) : ∀ (ws : List DV) (k : Nat) (q2 q3 q4 q5 : SV), k + ws.length = N →
    ∃ q2' q3' q4' q5', loopF (tfN 2) (dSeq (dNewL 3 daNil) (dSeq (dForV 1 (dSlot 1) (tfN 4) (dMut 3 gExt (daCons (dComp (dSrc gRange1 (daCons (dOp gIx (dVar 0) (dC (.int 0))) daNil)) (tfN 5) dYes (dOp gAdd (dVar 4) (dTup (daCons (dVar 5) daNil))) [5]) daNil))) (dSetV 1 3))) ws
      [.val (OwN P N), .val (.lst (Rs (allE P k))), q2, q3, q4, q5] h = .ok (.next [.val (OwN P N), .val (.lst (Rs (allE P N))), q2', q3', q4', q5']) h
  | [], k, q2, q3, q4, q5, hk => ⟨q2, q3, q4, q5, by
    have : k = N := by simpa using hk
    subst this; rfl⟩
  | w :: ws, k, q2, q3, q4, q5, hk => by
    rw [List.length_cons] at hk
    have hl : (allE P k).length ≤ 81 := by
      rw [allE_len]
      exact Nat.le_trans (Nat.pow_le_pow_right (Nat.pos_of_ne_zero (NeZero.ne P)) (by omega)) hb
    have hlp : (allE P k).length * P ≤ 81 * 5 := Nat.mul_le_mul hl hp
    obtain ⟨i4, i5, e1⟩ := every_inner hp h k (.val (.lst (Rs (allE P k)))) (OwN P N) rfl (by omega) (allE P k) [] (.val w) q4 q5 (fun u hu => by
      have := (allE_mem.mp hu).len
      omega) (by simp; omega)
    obtain ⟨j2, j3, j4, j5, e2⟩ := every_outer hp hN hb h ws (k + 1) (.val w) (.val (.lst (Rs (allE P (k + 1))))) i4 i5 (by omega)
    refine ⟨j2, j3, j4, j5, ?_⟩
    rw [← e2]
    rw [List.nil_append] at e1
    have e0 : Rs ([] : List (List Int)) = [] := rfl
    rw [e0] at e1
    have ea : ((allE P k).flatMap fun w => (List.range P).map fun x => w ++ [((x : Nat) : Int)]) = allE P (k + 1) := rfl
    rw [ea] at e1
    have ef : ∀ s : SV, frzS 1 [.val (OwN P N), .val (.lst (Rs (allE P k))), .val w, .own [], q4, s] = [.val (OwN P N), .val (.lst (Rs (allE P k))), .val w, .own [], q4, s] := fun _ => rfl
    rw [loopF_cons, tfN_ap, ofO_some, bind_ok]
    have es : setS 2 w [.val (OwN P N), .val (.lst (Rs (allE P k))), q2, q3, q4, q5] = [.val (OwN P N), .val (.lst (Rs (allE P k))), .val w, q3, q4, q5] := rfl
    rw [es]
    have eb : dSeq (dNewL 3 daNil) (dSeq (dForV 1 (dSlot 1) (tfN 4) (dMut 3 gExt (daCons (dComp (dSrc gRange1 (daCons (dOp gIx (dVar 0) (dC (.int 0))) daNil)) (tfN 5) dYes (dOp gAdd (dVar 4) (dTup (daCons (dVar 5) daNil))) [5]) daNil))) (dSetV 1 3)) [.val (OwN P N), .val (.lst (Rs (allE P k))), .val w, q3, q4, q5] h = .ok (.next [.val (OwN P N), .val (.lst (Rs (allE P (k + 1)))), .val w, .val (.lst (Rs (allE P (k + 1)))), i4, i5]) h := by
      refine go (σ' := [.val (OwN P N), .val (.lst (Rs (allE P k))), .val w, .own [], q4, q5]) (h' := h) (by simp [le_cap_of]) ?_
      refine go (σ' := [.val (OwN P N), .val (.lst (Rs (allE P k))), .val w, .own (Rs (allE P (k + 1))), i4, i5]) (h' := h) (by
        rw [dForV_ap, ef, dFor_ap]
        have eq : dSlot 1 [.val (OwN P N), .val (.lst (Rs (allE P k))), .val w, .own [], q4, q5] h = .ok (Rs (allE P k)) h := by simp
        rw [eq, bind_ok, e1]) ?_
      simp
    rw [eb, bind_ok, turn_next]
theorem every_row_ok (hs : (((P : Nat) : Int), ((N : Nat) : Int)) ∈ settings) (h : DH) : F__law_every_row [OwN P N] h = .ok (.lst (Rs (allE P N))) h := by
  obtain ⟨b1, b2, b3, b4⟩ := small hs
  have er := gRange1_nat (n := N) (by omega)
  obtain ⟨j2, j3, j4, j5, e⟩ := every_outer (P := P) (N := N) (by omega) (by omega) (pow_le hs) h (intsFrom 0 N) 0 .un .un .un .un (by rw [intsFrom_length]; omega)
  have e0 : Rs (allE P 0) = [.tup []] := rfl
  rw [e0] at e
  have e1 : gIx (OwN P N) (.int 1) = some (.int (N : Nat)) := rfl
  unfold F__law_every_row d__law_every_row
  simp [le_cap_of, e1, er, e]
end
end M
namespace M
open PySem PySem.Spec PyProof.Rows L2 DL
theorem sets6_in : ∀ q ∈ sets6, (((q.1 : Nat) : Int), ((q.2 : Nat) : Int)) ∈ settings := by decide
theorem sets6_nine : ∀ q ∈ sets6, q ∈ LA.sets9 := by decide
theorem sets6_pow : ∀ q ∈ sets6, q.1 ^ q.2 ≤ 9 := by decide
theorem allU_nodup : ∀ q ∈ LA.sets9, ∀ k, k < q.2 + 1 → (LA.allU q.1 q.2 k).Nodup := by decide +kernel
theorem check_num_ok {i most : Int} (h1 : 0 ≤ i) (h2 : i ≤ most) (h : DH) : F_check_number [.int i, .int most] h = .ok .non h := by
  have e := is_number_int i 0 most h
  rw [decide_eq_true h1, decide_eq_true h2] at e
  unfold F_check_number d_check_number
  simp [e]
theorem num_sub_ok {p n k : Nat} (hp : p = 2 ∨ p = 3 ∨ p = 5) (h1 : 1 ≤ n) (hn : n ≤ 4) (hk : k ≤ n) (h : DH) : F_number_of_subspaces [.int (p : Nat), .int (n : Nat), .int (k : Nat)] h = .ok (.int ((LA.rule p n k : Nat) : Int)) h := by
  rcases hp with rfl | rfl | rfl <;>
  rcases (show n = 1 ∨ n = 2 ∨ n = 3 ∨ n = 4 by omega) with rfl | rfl | rfl | rfl <;>
  rcases (show k = 0 ∨ k = 1 ∨ k = 2 ∨ k = 3 ∨ k = 4 by omega) with rfl | rfl | rfl | rfl | rfl <;>
  first | rfl | (exfalso; omega)
theorem size_by4 {p m : Nat} (hp : p = 2 ∨ p = 3 ∨ p = 5) (hm : m ≤ 4) (h : DH) : F__law_size_by [.int (p : Nat), .int (m : Nat)] h = .ok (.int ((p ^ m : Nat) : Int)) h := by
  rcases hp with rfl | rfl | rfl <;>
  rcases (show m = 0 ∨ m = 1 ∨ m = 2 ∨ m = 3 ∨ m = 4 by omega) with rfl | rfl | rfl | rfl | rfl <;> rfl
section
variable {P N : Nat} [NeZero P]
theorem count_sub_ok (hs : (((P : Nat) : Int), ((N : Nat) : Int)) ∈ settings) {k : Nat} (hk : k ≤ N) (h : DH) : F_count_subspaces [OwN P N, .int (k : Nat)] h = .ok (.int ((LA.rule P N k : Nat) : Int)) h := by
  obtain ⟨b1, b2, b3, b4⟩ := small hs
  have e2 : tfT 2 (tfsCons (tfN 2) (tfsCons (tfN 3) tfsNil)) (OwN P N) [.val (OwN P N), .val (.int (k : Nat)), .un, .un] = some [.val (OwN P N), .val (.int (k : Nat)), .val (.int (P : Nat)), .val (.int (N : Nat))] := rfl
  have e3 := check_num_ok (i := (k : Nat)) (most := (N : Nat)) (by omega) (by omega) h
  have e4 := num_sub_ok (p := P) (n := N) (k := k) (by have := prime hs; omega) (by omega) (by omega) hk h
  unfold F_count_subspaces d_count_subspaces
  simp [check_setting_ok hs, e2, e3, e4]
end
theorem lkK_cons (x : List (List Int) × Int) (kvs : KN) (j : List (List Int)) : lkK (x :: kvs) j = if x.1 = j then some x.2 else lkK kvs j := by
  unfold lkK
  rw [List.find?_cons]
  by_cases c : x.1 = j
  · rw [decide_eq_true c, if_pos c]; rfl
  · rw [decide_eq_false c, if_neg c]
theorem lkK_old (k : List (List Int)) (i : Int) (j : List (List Int)) : ∀ kvs : KN, lkK (kvs.map fun x => if x.1 = k then (x.1, i) else x) j = if j = k then (if (lkK kvs k).isSome = true then some i else none) else lkK kvs j
  | [] => by
    show (none : Option Int) = if j = k then none else none
    split <;> rfl
  | x :: kvs => by
    rw [List.map_cons, lkK_cons, lkK_old k i j kvs, lkK_cons, lkK_cons]
    by_cases c : x.1 = k
    · rw [if_pos c, if_pos c]
      show (if x.1 = j then some i else _) = _
      by_cases d : j = k
      · rw [if_pos d, if_pos d, if_pos (c.trans d.symm)]; rfl
      · rw [if_neg d, if_neg d, if_neg (fun z => d (z.symm.trans c))]
        rw [if_neg (fun z => d (z.symm.trans c))]
    · rw [if_neg c, if_neg c]
      by_cases d : j = k
      · rw [if_pos d, if_pos d, if_neg (fun z => c (z.trans d))]
      · rw [if_neg d, if_neg d]
theorem lkK_new (k : List (List Int)) (i : Int) (j : List (List Int)) : ∀ kvs : KN, lkK (kvs ++ [(k, i)]) j = if (lkK kvs j).isSome = true then lkK kvs j else if k = j then some i else none
  | [] => by
    rw [List.nil_append, lkK_cons]; rfl
  | x :: kvs => by
    rw [List.cons_append, lkK_cons, lkK_new k i j kvs, lkK_cons]
    by_cases c : x.1 = j
    · rw [if_pos c, if_pos c]; rfl
    · rw [if_neg c, if_neg c]
theorem lkK_put (kvs : KN) (k : List (List Int)) (i : Int) (j : List (List Int)) : lkK (ptK kvs k i) j = if j = k then some i else lkK kvs j := by
  unfold ptK
  by_cases c : (lkK kvs k).isSome = true
  · rw [if_pos c, lkK_old, if_pos c]
  · rw [if_neg c, lkK_new]
    by_cases d : j = k
    · subst d
      rw [if_neg c, if_pos rfl, if_pos rfl]
    · rw [if_neg d, if_neg (show ¬ k = j from fun z => d z.symm)]
      cases e : lkK kvs j with
      | none => rfl
      | some v => rfl
theorem lkK_mem (k : List (List Int)) : ∀ kvs : KN, (lkK kvs k).isSome = true ↔ k ∈ kvs.map (·.1)
  | [] => ⟨fun z => (by cases z), fun z => (by cases z)⟩
  | x :: kvs => by
    rw [lkK_cons, List.map_cons, List.mem_cons, ← lkK_mem k kvs]
    by_cases c : x.1 = k
    · rw [if_pos c]
      exact ⟨fun _ => .inl c.symm, fun _ => rfl⟩
    · rw [if_neg c]
      exact ⟨.inr, fun z => z.elim (fun z => absurd z.symm c) id⟩
theorem keys_put (kvs : KN) (k : List (List Int)) (i : Int) : (ptK kvs k i).map (·.1) = if k ∈ kvs.map (·.1) then kvs.map (·.1) else kvs.map (·.1) ++ [k] := by
  unfold ptK
  by_cases c : k ∈ kvs.map (·.1)
  · rw [if_pos ((lkK_mem k kvs).mpr c), if_pos c, List.map_map]
    refine List.map_congr_left fun x _ => ?_
    show (if x.1 = k then (x.1, i) else x).1 = x.1
    split <;> rfl
  · rw [if_neg (fun z => c ((lkK_mem k kvs).mp z)), if_neg c, List.map_append]; rfl
structure CntK (kvs : KN) (done : List (List (List Int))) : Prop where
  val : ∀ S, lkK kvs S = if S ∈ done then some ((done.count S : Nat) : Int) else none
  nd : (kvs.map (·.1)).Nodup
  mem : ∀ S, S ∈ kvs.map (·.1) ↔ S ∈ done
  few : kvs.length ≤ done.length
theorem cntK_nil : CntK [] [] := ⟨fun _ => rfl, List.nodup_nil, fun _ => Iff.rfl, Nat.le_refl _⟩
theorem CntK.put {kvs : KN} {done : List (List (List Int))} (C : CntK kvs done) (k : List (List Int)) : CntK (ptK kvs k ((done.count k : Nat) + 1)) (done ++ [k]) := by
  refine ⟨fun j => ?_, ?_, fun S => ?_, ?_⟩
  · rw [lkK_put, C.val]
    by_cases ej : j = k
    · subst ej
      rw [if_pos rfl, if_pos (by simp)]
      simp
    · rw [if_neg ej]
      have h1 : (j ∈ done ++ [k]) ↔ j ∈ done := by simp [ej]
      by_cases hj : j ∈ done
      · rw [if_pos hj, if_pos (h1.mpr hj)]
        have : (done ++ [k]).count j = done.count j := by
          rw [List.count_append, List.count_singleton]
          have : (k == j) = false := by simpa using fun z => ej z.symm
          simp [this]
        rw [this]
      · rw [if_neg hj, if_neg (fun z => hj (h1.mp z))]
  · rw [keys_put]
    by_cases c : k ∈ kvs.map (·.1)
    · rw [if_pos c]; exact C.nd
    · rw [if_neg c, List.nodup_append]
      refine ⟨C.nd, List.nodup_cons.mpr ⟨by simp, List.nodup_nil⟩, fun a ha b hb e => ?_⟩
      rw [List.mem_singleton] at hb
      subst hb e
      exact c ha
  · rw [keys_put, List.mem_append, List.mem_singleton, ← C.mem]
    by_cases c : k ∈ kvs.map (·.1)
    · rw [if_pos c]
      exact ⟨.inl, fun z => z.elim id fun z => z ▸ c⟩
    · rw [if_neg c, List.mem_append, List.mem_singleton]
  · have := C.few
    have e := congrArg List.length (keys_put kvs k ((done.count k : Nat) + 1))
    rw [List.length_map] at e
    rw [List.length_append, List.length_singleton, e]
    split
    · rw [List.length_map]; omega
    · rw [List.length_append, List.length_map, List.length_singleton]; omega
end M
namespace M
open PySem PySem.Spec PyProof.Rows L2 DL
abbrev Ll (Ls : List (List (List Int))) : List DV := Ls.map fun L => DV.lst (Rs L)
abbrev lawS (ns : List Int) (P N k : Nat) (q4 q5 q6 q7 q8 q11 q12 q13 q14 q15 : SV) : DSt := [.val (Sc ns), .val (.ref 0), .val (OwN P N), .val (.int (k : Nat)), q4, q5, q6, q7, q8, .val (.int (P : Nat)), .val (.int (N : Nat)), q11, q12, q13, q14, q15]
def bodyA : DS := dMut 11 gExt (daCons (dComp (dSeqOf (dCall 1 F__law_every_row (daCons (dVar 2) daNil))) (tfN 15) dYes (dOp gAdd (dVar 7) (dLst (daCons (dVar 15) daNil))) [15]) daNil)
def bodyB : DS := dSeq (dNewL 11 daNil) (dSeq (dForV 4 (dSlot 4) (tfN 7) bodyA) (dSetV 4 11))
section
variable {P N : Nat} [NeZero P] {ns : List Int} {k : Nat} {q4 q5 q8 : SV}
theorem turnA (hs : (((P : Nat) : Int), ((N : Nat) : Int)) ∈ settings) (h9 : P ^ N ≤ 9) {L : List (List Int)} (hL : L.length ≤ 4) {done : List (List (List Int))} (hd : done.length ≤ 900) (h : DH) :
    bodyA (lawS ns P N k q4 q5 .un (.val (.lst (Rs L))) q8 (.own (Ll done)) .un .un .un .un) h = .ok (.next (lawS ns P N k q4 q5 .un (.val (.lst (Rs L))) q8 (.own (Ll (done ++ (allE P N).map fun r => L ++ [r]))) .un .un .un .un)) h := by
  have e0 := every_row_ok hs h
  have lA : (allE P N).length ≤ 9 := by rw [allE_len]; exact h9
  generalize allE P N = A at e0 lA
  have er : loopC (tfN 15) dYes (dOp gAdd (dVar 7) (dLst (daCons (dVar 15) daNil))) (lawS ns P N k q4 q5 .un (.val (.lst (Rs L))) q8 (.own (Ll done)) .un .un .un .un) (A.map R) h = .ok (A.map fun r => DV.lst (Rs (L ++ [r]))) h :=
    loopC_via R (fun r => DV.lst (Rs (L ++ [r]))) A fun r hr => ⟨_, rfl, by
      have e := gAdd_lst (ws := Rs L) (zs := [R r]) (by show (List.map R L).length + 1 ≤ _; rw [List.length_map]; omega)
      have e' : gAdd (.lst (Rs L)) (.lst [R r]) = some (.lst (Rs (L ++ [r]))) := by
        rw [e]
        show some (DV.lst (List.map R L ++ [R r])) = some (.lst (List.map R (L ++ [r])))
        rw [List.map_append]; rfl
      have g7 : getS (lawS ns P N k q4 q5 .un (.val (.lst (Rs L))) q8 (.own (Ll done)) .un .un .un (.val (R r))) 7 = some (.lst (Rs L)) := rfl
      have g15 : getS (lawS ns P N k q4 q5 .un (.val (.lst (Rs L))) q8 (.own (Ll done)) .un .un .un (.val (R r))) 15 = some (R r) := rfl
      show dOp gAdd (dVar 7) (dLst (daCons (dVar 15) daNil)) (lawS ns P N k q4 q5 .un (.val (.lst (Rs L))) q8 (.own (Ll done)) .un .un .un (.val (R r))) h = _
      rw [dOp_ap, dVar_ap, g7, ofO_some, bind_ok, dLst_ap, daCons_ap, dVar_ap, g15, ofO_some, bind_ok, daNil_ap, bind_ok, bind_ok]
      have c1 : le_cap [R r].length = true := le_cap_of (by show 1 ≤ 100000; omega)
      have c2 : heldAll [R r] = true := rfl
      rw [c1, c2, chk_true, chk_true, bind_ok, e']; rfl, rfl⟩
  have eX : (A.map fun r => DV.lst (Rs (L ++ [r]))) = Ll (A.map fun r => L ++ [r]) := by
    show _ = List.map _ _
    rw [List.map_map]; rfl
  rw [eX] at er
  have lX : (A.map fun r => L ++ [r]).length ≤ 9 := by rw [List.length_map]; exact lA
  generalize (A.map fun r => L ++ [r]) = Y at er lX
  have e3 : gExt (.lst (Ll Y)) (Ll done) = some (Ll (done ++ Y)) := by
    show (if (Ll done).length + (Ll Y).length ≤ cap then some (Ll done ++ Ll Y) else none) = _
    rw [if_pos (by
      show (List.map _ done).length + (List.map _ Y).length ≤ 100000
      rw [List.length_map, List.length_map]; omega)]
    show some (List.map _ _ ++ List.map _ _) = some (List.map _ _)
    rw [List.map_append]
  have ei : isL 11 (lawS ns P N k q4 q5 .un (.val (.lst (Rs L))) q8 (.own (Ll done)) .un .un .un .un) h = true := rfl
  have em : mutS 11 (gExt (.lst (Ll Y))) (lawS ns P N k q4 q5 .un (.val (.lst (Rs L))) q8 (.own (Ll done)) .un .un .un .un) h = .ok (.next (lawS ns P N k q4 q5 .un (.val (.lst (Rs L))) q8 (.own (Ll (done ++ Y))) .un .un .un .un)) h := by
    show (match gExt (.lst (Ll Y)) (Ll done) with
      | some zs => Res.ok (Fl.next (setO 11 zs (lawS ns P N k q4 q5 .un (.val (.lst (Rs L))) q8 (.own (Ll done)) .un .un .un .un))) h
      | none => Res.bad) = _
    rw [e3]; rfl
  have es : dSeqOf (dCall 1 F__law_every_row (daCons (dVar 2) daNil)) (lawS ns P N k q4 q5 .un (.val (.lst (Rs L))) q8 (.own (Ll done)) .un .un .un .un) h = .ok (A.map R) h := by
    show (Res.bind (F__law_every_row [OwN P N] h) fun w h1 => ofO (seqOf w) h1) = _
    rw [e0]; rfl
  have ew : wipeD (lawS ns P N k q4 q5 .un (.val (.lst (Rs L))) q8 (.own (Ll done)) .un .un .un .un) [15] = lawS ns P N k q4 q5 .un (.val (.lst (Rs L))) q8 (.own (Ll done)) .un .un .un .un := rfl
  have cc : le_cap (A.map R).length = true := le_cap_of (by rw [List.length_map]; omega)
  have eo : one1 [DV.lst (Ll Y)] = some (.lst (Ll Y)) := rfl
  unfold bodyA
  rw [dMut_ap, ei, chk_true, daCons_ap, dComp_ap, es, bind_ok, cc, chk_true, ew, er, noX_ok, bind_ok, bind_ok, daNil_ap, bind_ok, bind_ok, eo, ofO_some, bind_ok, em]
theorem loopA (hs : (((P : Nat) : Int), ((N : Nat) : Int)) ∈ settings) (h9 : P ^ N ≤ 9) (h : DH) : ∀ (rest done : List (List (List Int))) (q7 : SV), isD q7 = false → (∀ L ∈ rest, L.length ≤ 4) → done.length + rest.length * 9 ≤ 900 →
    ∃ q7', isD q7' = false ∧ loopF (tfN 7) bodyA (Ll rest) (lawS ns P N k q4 q5 .un q7 q8 (.own (Ll done)) .un .un .un .un) h = .ok (.next (lawS ns P N k q4 q5 .un q7' q8 (.own (Ll (done ++ rest.flatMap fun L => (allE P N).map fun r => L ++ [r]))) .un .un .un .un)) h
  | [], done, q7, hq, _, _ => ⟨q7, hq, by simp⟩
  | L :: rest, done, q7, hq, hL, hd => by
    rw [List.length_cons] at hd
    have b := turnA (ns := ns) (k := k) (q4 := q4) (q5 := q5) (q8 := q8) hs h9 (hL L List.mem_cons_self) (done := done) (by omega) h
    have lA : (allE P N).length ≤ 9 := by rw [allE_len]; exact h9
    obtain ⟨q7', hq', ih⟩ := loopA hs h9 h rest (done ++ (allE P N).map fun r => L ++ [r]) (.val (.lst (Rs L))) rfl (fun T hT => hL T (List.mem_cons_of_mem _ hT)) (by rw [List.length_append, List.length_map]; omega)
    refine ⟨q7', hq', ?_⟩
    rw [List.flatMap_cons, ← List.append_assoc, ← ih]
    show loopF (tfN 7) bodyA (DV.lst (Rs L) :: Ll rest) _ h = _
    rw [loopF_cons, tfN_ap, ofO_some, bind_ok]
    show (bodyA (lawS ns P N k q4 q5 .un (.val (.lst (Rs L))) q8 (.own (Ll done)) .un .un .un .un) h).bind _ = _
    rw [b, bind_ok, turn_next]
theorem listsK_len : ∀ (k : Nat), ∀ L ∈ listsK P N k, L.length = k
  | 0, L, h => by rw [List.mem_singleton.mp h]; rfl
  | k + 1, L, h => by
    obtain ⟨T, hT, h⟩ := List.mem_flatMap.mp h
    obtain ⟨r, _, rfl⟩ := List.mem_map.mp h
    rw [List.length_append, listsK_len k T hT]; rfl
theorem loopB (hs : (((P : Nat) : Int), ((N : Nat) : Int)) ∈ settings) (h9 : P ^ N ≤ 9) (hk : k ≤ 2) (hl : ∀ j, j < k → (listsK P N j).length ≤ 81) (h : DH) : ∀ (ws : List DV) (j : Nat) (q5 q7 q11 : SV), isD q5 = false → isD q7 = false → isD q11 = false → j + ws.length = k →
    ∃ q5' q7' q11', isD q5' = false ∧ isD q7' = false ∧ isD q11' = false ∧ loopF (tfN 5) bodyB ws (lawS ns P N k (.val (.lst (Ll (listsK P N j)))) q5 .un q7 q8 q11 .un .un .un .un) h = .ok (.next (lawS ns P N k (.val (.lst (Ll (listsK P N k)))) q5' .un q7' q8 q11' .un .un .un .un)) h
  | [], j, q5, q7, q11, h5, h7, h11, hj => ⟨q5, q7, q11, h5, h7, h11, by
    have : j = k := by simpa using hj
    subst this; rfl⟩
  | w :: ws, j, q5, q7, q11, h5, h7, h11, hj => by
    rw [List.length_cons] at hj
    have lj := hl j (by omega)
    obtain ⟨i7, hi, e1⟩ := loopA (ns := ns) (k := k) (q4 := .val (.lst (Ll (listsK P N j)))) (q5 := .val w) (q8 := q8) hs h9 h (listsK P N j) [] q7 h7 (fun L hL => by have := listsK_len j L hL; omega) (by show 0 + _ ≤ _; omega)
    rw [List.nil_append] at e1
    have ea : ((listsK P N j).flatMap fun L => (allE P N).map fun r => L ++ [r]) = listsK P N (j + 1) := rfl
    rw [ea] at e1
    obtain ⟨j5, j7, j11, k5, k7, k11, e2⟩ := loopB hs h9 hk hl h ws (j + 1) (.val w) i7 (.val (.lst (Ll (listsK P N (j + 1))))) rfl hi rfl (by omega)
    refine ⟨j5, j7, j11, k5, k7, k11, ?_⟩
    rw [← e2, loopF_cons, tfN_ap, ofO_some, bind_ok]
    show (bodyB (lawS ns P N k (.val (.lst (Ll (listsK P N j)))) (.val w) .un q7 q8 q11 .un .un .un .un) h).bind _ = _
    have eb : bodyB (lawS ns P N k (.val (.lst (Ll (listsK P N j)))) (.val w) .un q7 q8 q11 .un .un .un .un) h = .ok (.next (lawS ns P N k (.val (.lst (Ll (listsK P N (j + 1))))) (.val w) .un i7 q8 (.val (.lst (Ll (listsK P N (j + 1))))) .un .un .un .un)) h := by
      unfold bodyB
      refine go (σ' := lawS ns P N k (.val (.lst (Ll (listsK P N j)))) (.val w) .un q7 q8 (.own (Ll [])) .un .un .un .un) (h' := h) rfl ?_
      refine go (σ' := lawS ns P N k (.val (.lst (Ll (listsK P N j)))) (.val w) .un i7 q8 (.own (Ll (listsK P N (j + 1)))) .un .un .un .un) (h' := h) (by
        rw [dForV_ap, dFor_ap]
        exact e1) ?_
      rfl
    rw [eb, bind_ok, turn_next]
end
end M
namespace M
open PySem PySem.Spec PyProof.Rows L2 DL
noncomputable def body1 (D : DX) : DS := dSeq (dSet 12 (dCall 2 F_span (daCons (dVar 2) (daCons (dVar 7) daNil)))) (dIfS (dOp gEq (dFn gLen (daCons (dVar 12) daNil)) (dVar 3)) (dPutX D 6 (dOp gAdd (dGet2X D 6 (dVar 12) (dC (.int 0))) (dC (.int 1))) (dVar 12)) dNext)
theorem isD_val (w : DV) : isD (.val w) = false := rfl
theorem isD_un : isD .un = false := rfl
theorem spI_sp (S : List (List Int)) : spI (Sp' S) = some S := rowsI_rows S
section
variable {P N : Nat} [NeZero P] {ns : List Int} {k : Nat} {q4 q5 q11 : SV} {D : DX}
theorem turn1 (hs : (((P : Nat) : Int), ((N : Nat) : Int)) ∈ settings) {L : List (List Int)} (hL : LA.Rows P N L) (hl : L.length ≤ 4) {kvs : KN} {done : List (List (List Int))} (C : CntK kvs done) (hd : done.length ≤ 900) (h4 : isD q4 = false) (h5 : isD q5 = false) (h11 : isD q11 = false) (q12 : SV) (h : DH) :
    body1 D (lawS ns P N k q4 q5 (.dx D kvs) (.val (.lst (Rs L))) .un q11 q12 .un .un .un) h
      = .ok (.next (lawS ns P N k q4 q5 (.dx D (if (LA.redM P (invP P) L).length = k then ptK kvs (LA.redM P (invP P) L) ((done.count (LA.redM P (invP P) L) : Nat) + 1) else kvs)) (.val (.lst (Rs L))) .un q11 (.val (Sp' (LA.redM P (invP P) L))) .un .un .un)) h := by
  have e1 := span_ok hs hL (by omega) h
  generalize LA.redM P (invP P) L = S at e1
  unfold body1
  refine go (σ' := lawS ns P N k q4 q5 (.dx D kvs) (.val (.lst (Rs L))) .un q11 (.val (Sp' S)) .un .un .un) (h' := h) (by
    show (Res.bind (F_span [OwN P N, .lst (Rs L)] h) _) = _
    rw [e1]; rfl) ?_
  have gl : gLen [Sp' S] h = some (.int (S.length : Nat)) := by show some (DV.int ((S.map R).length : Nat)) = _; rw [List.length_map]
  have gq := enc_eq enc_int enc_int (a := ((S.length : Nat) : Int)) (b := ((k : Nat) : Int))
  have et : dOp gEq (dFn gLen (daCons (dVar 12) daNil)) (dVar 3) (lawS ns P N k q4 q5 (.dx D kvs) (.val (.lst (Rs L))) .un q11 (.val (Sp' S)) .un .un .un) h = .ok (.bl (decide (((S.length : Nat) : Int) = (k : Nat)))) h := by
    show Res.bind (ofO (gLen [Sp' S] h) h) (fun a h1 => Res.bind (.ok (.int (k : Nat)) h1) fun b h2 => ofO (gEq a b) h2) = _
    rw [gl]
    show ofO (gEq (.int (S.length : Nat)) (.int (k : Nat))) h = _
    rw [gq]; rfl
  rw [dIfS_ap, et, bind_ok]
  by_cases c : S.length = k
  · rw [decide_eq_true (by rw [c]), if_pos c]
    show dPutX D 6 _ _ _ h = _
    have o1 : onlyD 6 (lawS ns P N k q4 q5 (.dx D kvs) (.val (.lst (Rs L))) .un q11 (.val (Sp' S)) .un .un .un) = true := by
      simp only [onlyD, noD, h4, h5, h11, isD_val, isD_un, Bool.not_false, Bool.and_self]
    have g6 : getX D (lawS ns P N k q4 q5 (.dx D kvs) (.val (.lst (Rs L))) .un q11 (.val (Sp' S)) .un .un .un) 6 = some kvs := getX_of rfl
    have g12 : getS (lawS ns P N k q4 q5 (.dx D kvs) (.val (.lst (Rs L))) .un q11 (.val (Sp' S)) .un .un .un) 12 = some (Sp' S) := rfl
    have eset : (lawS ns P N k q4 q5 (.dx D kvs) (.val (.lst (Rs L))) .un q11 (.val (Sp' S)) .un .un .un).set 6 (.dx D (ptK kvs S ((done.count S : Nat) + 1))) = lawS ns P N k q4 q5 (.dx D (ptK kvs S ((done.count S : Nat) + 1))) (.val (.lst (Rs L))) .un q11 (.val (Sp' S)) .un .un .un := rfl
    generalize lawS ns P N k q4 q5 (.dx D kvs) (.val (.lst (Rs L))) .un q11 (.val (Sp' S)) .un .un .un = σ at *
    have vl : ((lkK kvs S).map DV.int).getD (.int 0) = .int ((done.count S : Nat) : Int) := by
      rw [C.val]
      by_cases hk : S ∈ done
      · rw [if_pos hk]; rfl
      · rw [if_neg hk, List.count_eq_zero_of_not_mem hk]; rfl
    have e4 : dGet2X D 6 (dVar 12) (dC (.int 0)) σ h = .ok (.int ((done.count S : Nat) : Int)) h := by
      rw [dGet2X_ap, g6, ofO_some, bind_ok, dVar_ap, g12, ofO_some, bind_ok, dC_ap, bind_ok, spI_sp]
      show ofO (some (((lkK kvs S).map DV.int).getD (.int 0))) h = _
      rw [vl]; rfl
    have ev : dOp gAdd (dGet2X D 6 (dVar 12) (dC (.int 0))) (dC (.int 1)) σ h = .ok (.int ((done.count S : Nat) + 1)) h := by
      rw [dOp_ap, e4, bind_ok, dC_ap, bind_ok]; rfl
    have st : ((spI (Sp' S)).bind fun k => (asI (.int ((done.count S : Nat) + 1))).bind fun j => if kvs.length < 1000 then some (ptK kvs k j) else none) = some (ptK kvs S ((done.count S : Nat) + 1)) := by
      rw [spI_sp]
      show (if kvs.length < 1000 then _ else _) = _
      rw [if_pos (by have := C.few; omega)]
    rw [dPutX_ap, ev, bind_ok, o1, chk_true, g6, ofO_some, bind_ok, dVar_ap, g12, ofO_some, bind_ok, st, ofO_some, bind_ok, eset]
  · rw [decide_eq_false (fun z => c (by omega)), if_neg c]; rfl
theorem loop1 (hs : (((P : Nat) : Int), ((N : Nat) : Int)) ∈ settings) (h4 : isD q4 = false) (h5 : isD q5 = false) (h11 : isD q11 = false) (h : DH) : ∀ (rest : List (List (List Int))) (kvs : KN) (done : List (List (List Int))) (q7 q12 : SV), (∀ L ∈ rest, LA.Rows P N L ∧ L.length ≤ 4) → CntK kvs done → done.length + rest.length ≤ 900 → isD q7 = false → isD q12 = false →
    ∃ kvs' q7' q12', loopF (tfN 7) (body1 D) (Ll rest) (lawS ns P N k q4 q5 (.dx D kvs) q7 .un q11 q12 .un .un .un) h = .ok (.next (lawS ns P N k q4 q5 (.dx D kvs') q7' .un q11 q12' .un .un .un)) h ∧ CntK kvs' (done ++ (rest.filter fun L => decide ((LA.redM P (invP P) L).length = k)).map (LA.redM P (invP P))) ∧ isD q7' = false ∧ isD q12' = false
  | [], kvs, done, q7, q12, _, C, _, h7, h12 => ⟨kvs, q7, q12, rfl, by simpa using C, h7, h12⟩
  | L :: rest, kvs, done, q7, q12, hL, C, hd, h7, h12 => by
    rw [List.length_cons] at hd
    obtain ⟨r1, r2⟩ := hL L List.mem_cons_self
    have b := turn1 (ns := ns) (k := k) (D := D) hs r1 r2 C (by omega) h4 h5 h11 q12 h
    generalize hS : LA.redM P (invP P) L = S at b
    by_cases c : S.length = k
    · rw [if_pos c] at b
      obtain ⟨kvs', q7', q12', ih, C', i7, i12⟩ := loop1 hs h4 h5 h11 h rest _ _ (.val (.lst (Rs L))) (.val (Sp' S)) (fun T hT => hL T (List.mem_cons_of_mem _ hT)) (C.put S) (by rw [List.length_append, List.length_singleton]; omega) rfl rfl
      refine ⟨kvs', q7', q12', ?_, ?_, i7, i12⟩
      · show loopF (tfN 7) (body1 D) (DV.lst (Rs L) :: Ll rest) _ h = _
        rw [loopF_cons, tfN_ap, ofO_some, bind_ok]
        show (body1 D (lawS ns P N k q4 q5 (.dx D kvs) (.val (.lst (Rs L))) .un q11 q12 .un .un .un) h).bind _ = _
        rw [b, bind_ok, turn_next, ih]
      · rw [List.filter_cons, hS, if_pos (decide_eq_true c), List.map_cons, hS]
        rw [List.append_assoc] at C'
        exact C'
    · rw [if_neg c] at b
      obtain ⟨kvs', q7', q12', ih, C', i7, i12⟩ := loop1 hs h4 h5 h11 h rest kvs done (.val (.lst (Rs L))) (.val (Sp' S)) (fun T hT => hL T (List.mem_cons_of_mem _ hT)) C (by omega) rfl rfl
      refine ⟨kvs', q7', q12', ?_, ?_, i7, i12⟩
      · show loopF (tfN 7) (body1 D) (DV.lst (Rs L) :: Ll rest) _ h = _
        rw [loopF_cons, tfN_ap, ofO_some, bind_ok]
        show (body1 D (lawS ns P N k q4 q5 (.dx D kvs) (.val (.lst (Rs L))) .un q11 q12 .un .un .un) h).bind _ = _
        rw [b, bind_ok, turn_next, ih]
      · rw [List.filter_cons, hS, if_neg (by simpa using c)]
        exact C'
def body3 : DS := dSeq (dSet 13 (dOp gMul (dVar 13) (dOp gSub (dCall 2 F__law_size_by (daCons (dVar 9) (daCons (dVar 10) daNil))) (dCall 2 F__law_size_by (daCons (dVar 9) (daCons (dVar 8) daNil)))))) (dSet 14 (dOp gMul (dVar 14) (dOp gSub (dCall 2 F__law_size_by (daCons (dVar 9) (daCons (dVar 3) daNil))) (dCall 2 F__law_size_by (daCons (dVar 9) (daCons (dVar 8) daNil))))))
variable {q6 q7 q12 : SV}
theorem turn3 (hs : (((P : Nat) : Int), ((N : Nat) : Int)) ∈ settings) (hk : k ≤ N) (h9 : P ^ N ≤ 9) {i : Nat} (hi : i ≤ k) {t e : Nat} (ht : t ≤ 1000) (he : e ≤ 1000) (h : DH) :
    body3 (lawS ns P N k q4 q5 q6 q7 (.val (.int (i : Nat))) q11 q12 (.val (.int (t : Nat))) (.val (.int (e : Nat))) .un) h
      = .ok (.next (lawS ns P N k q4 q5 q6 q7 (.val (.int (i : Nat))) q11 q12 (.val (.int ((t * (P ^ N - P ^ i) : Nat) : Int))) (.val (.int ((e * (P ^ k - P ^ i) : Nat) : Int))) .un)) h := by
  obtain ⟨b1, b2, b3, b4⟩ := small hs
  have h5 : P = 2 ∨ P = 3 ∨ P = 5 := by have := prime hs; omega
  have s1 := size_by4 (p := P) (m := N) h5 (by omega) h
  have s2 := size_by4 (p := P) (m := k) h5 (by omega) h
  have s3 := size_by4 (p := P) (m := i) h5 (by omega) h
  have p1 : P ^ i ≤ P ^ N := Nat.pow_le_pow_right (by omega) (by omega)
  have p2 : P ^ i ≤ P ^ k := Nat.pow_le_pow_right (by omega) hi
  have p3 : P ^ k ≤ P ^ N := Nat.pow_le_pow_right (by omega) hk
  unfold body3
  refine go (σ' := lawS ns P N k q4 q5 q6 q7 (.val (.int (i : Nat))) q11 q12 (.val (.int ((t * (P ^ N - P ^ i) : Nat) : Int))) (.val (.int (e : Nat))) .un) (h' := h) ?_ ?_
  · have g : ((t * (P ^ N - P ^ i) : Nat) : Int) = (t : Int) * (((P ^ N : Nat) : Int) - ((P ^ i : Nat) : Int)) := by
      rw [Int.natCast_mul, Int.ofNat_sub p1]
    rw [g]
    show Res.bind (Res.bind (.ok (.int (t : Nat)) h) fun a h1 => Res.bind (Res.bind (F__law_size_by [.int (P : Nat), .int (N : Nat)] h1) fun a h1 => Res.bind (F__law_size_by [.int (P : Nat), .int (i : Nat)] h1) fun b h2 => ofO (gSub a b) h2) fun b h2 => ofO (gMul a b) h2) _ = _
    rw [bind_ok, s1, bind_ok, s3, bind_ok, gSub_int, ofO_some, bind_ok, gMul_int (.inl ⟨by omega, by omega⟩), ofO_some, bind_ok]; rfl
  · have g : ((e * (P ^ k - P ^ i) : Nat) : Int) = (e : Int) * (((P ^ k : Nat) : Int) - ((P ^ i : Nat) : Int)) := by
      rw [Int.natCast_mul, Int.ofNat_sub p2]
    rw [g]
    show Res.bind (Res.bind (.ok (.int (e : Nat)) h) fun a h1 => Res.bind (Res.bind (F__law_size_by [.int (P : Nat), .int (k : Nat)] h1) fun a h1 => Res.bind (F__law_size_by [.int (P : Nat), .int (i : Nat)] h1) fun b h2 => ofO (gSub a b) h2) fun b h2 => ofO (gMul a b) h2) _ = _
    rw [bind_ok, s2, bind_ok, s3, bind_ok, gSub_int, ofO_some, bind_ok, gMul_int (.inl ⟨by omega, by omega⟩), ofO_some, bind_ok]; rfl
theorem loop3 (hs : (((P : Nat) : Int), ((N : Nat) : Int)) ∈ settings) (hk : k ≤ N) (h9 : P ^ N ≤ 9) (h : DH) : ∀ (xs : List Nat) (t e : Nat) (q8 : SV), (∀ x ∈ xs, x ≤ k) → t * 9 ^ xs.length ≤ 1000 → e * 9 ^ xs.length ≤ 1000 → isD q8 = false →
    ∃ q8', isD q8' = false ∧ loopF (tfN 8) body3 (xs.map fun x => DV.int (x : Nat)) (lawS ns P N k q4 q5 q6 q7 q8 q11 q12 (.val (.int (t : Nat))) (.val (.int (e : Nat))) .un) h
      = .ok (.next (lawS ns P N k q4 q5 q6 q7 q8' q11 q12 (.val (.int ((xs.foldl (fun a i => a * (P ^ N - P ^ i)) t : Nat) : Int))) (.val (.int ((xs.foldl (fun a i => a * (P ^ k - P ^ i)) e : Nat) : Int))) .un)) h
  | [], t, e, q8, _, _, _, h8 => ⟨q8, h8, rfl⟩
  | x :: xs, t, e, q8, hx, ht, he, h8 => by
    obtain ⟨b1, b2, b3, b4⟩ := small hs
    have p3 : P ^ k ≤ P ^ N := Nat.pow_le_pow_right (by omega) hk
    have p0 : 0 < 9 ^ xs.length := Nat.pow_pos (by omega)
    rw [List.length_cons, Nat.pow_succ] at ht he
    have t1 : t * (9 ^ xs.length * 9) = t * 9 * 9 ^ xs.length := by rw [Nat.mul_comm (9 ^ xs.length) 9, Nat.mul_assoc]
    have t2 : e * (9 ^ xs.length * 9) = e * 9 * 9 ^ xs.length := by rw [Nat.mul_comm (9 ^ xs.length) 9, Nat.mul_assoc]
    rw [t1] at ht
    rw [t2] at he
    have t3 : t * (P ^ N - P ^ x) * 9 ^ xs.length ≤ 1000 := Nat.le_trans (Nat.mul_le_mul_right _ (Nat.mul_le_mul_left t (show P ^ N - P ^ x ≤ 9 by omega))) ht
    have t4 : e * (P ^ k - P ^ x) * 9 ^ xs.length ≤ 1000 := Nat.le_trans (Nat.mul_le_mul_right _ (Nat.mul_le_mul_left e (show P ^ k - P ^ x ≤ 9 by omega))) he
    have t5 : t ≤ 1000 := by have := Nat.le_trans (Nat.le_mul_of_pos_right (t * 9) p0) ht; omega
    have t6 : e ≤ 1000 := by have := Nat.le_trans (Nat.le_mul_of_pos_right (e * 9) p0) he; omega
    have b := turn3 (ns := ns) (q4 := q4) (q5 := q5) (q6 := q6) (q7 := q7) (q11 := q11) (q12 := q12) hs hk h9 (hx x List.mem_cons_self) t5 t6 h
    obtain ⟨q8', i8, ih⟩ := loop3 hs hk h9 h xs (t * (P ^ N - P ^ x)) (e * (P ^ k - P ^ x)) (.val (.int (x : Nat))) (fun y hy => hx y (List.mem_cons_of_mem _ hy)) t3 t4 rfl
    refine ⟨q8', i8, ?_⟩
    rw [List.map_cons, loopF_cons, tfN_ap, ofO_some, bind_ok]
    show (body3 (lawS ns P N k q4 q5 q6 q7 (.val (.int (x : Nat))) q11 q12 (.val (.int (t : Nat))) (.val (.int (e : Nat))) .un) h).bind _ = _
    rw [b, bind_ok, turn_next, ih]; rfl
end
end M
namespace M
open PySem PySem.Spec PyProof.Rows L2 DL
theorem small6 : ∀ q ∈ sets6, ∀ k ∈ [1, 2], k ≤ q.2 → LA.rule q.1 q.2 k ≤ 100 ∧ eachK q.1 k ≤ 100 := by decide +kernel
section
variable {P N : Nat} [NeZero P] {k : Nat}
theorem table_ok (hq : (P, N) ∈ sets6) (h12 : k ∈ [1, 2]) (hk : k ≤ N) {kvs : KN} (C : CntK kvs (((listsK P N k).filter fun L => decide ((LA.redM P (invP P) L).length = k)).map (LA.redM P (invP P)))) :
    (∀ S ∈ kvs.map (·.1), lkK kvs S = some ((eachK P k : Nat) : Int)) ∧ kvs.length = (LA.allU P N k).length := by
  have hs := sets6_in _ hq
  obtain ⟨b1, b2, b3, b4⟩ := small hs
  have hp : 1 < P := by have : (2 : Int) ≤ (P : Nat) := b1; omega
  have hN : N ≤ 4 := by have : ((N : Nat) : Int) ≤ 4 := b4; omega
  have hi := invP_ok (P := P) (N := N) hs
  have sp : ∀ L ∈ listsK P N k, spanK P N L = some (LA.redM P (invP P) L) ∧ ∃ k', k' ≤ N ∧ LA.redM P (invP P) L ∈ LA.allU P N k' := fun L hL => by
    obtain ⟨s1, s2⟩ := spans_known _ hq k h12 hk L hL
    obtain ⟨S, eS⟩ := Option.isSome_iff_exists.mp s1
    obtain ⟨t1, t2⟩ := span_known hp hi hN s2 eS
    have eS : spanK P N L = some S := eS
    rw [t1, eS]
    exact ⟨rfl, t2⟩
  have up : ∀ S, S ∈ LA.allU P N k → (((listsK P N k).filter fun L => decide ((LA.redM P (invP P) L).length = k)).map (LA.redM P (invP P))).count S = eachK P k := fun S hS => by
    have lS : S.length = k := ((LA.mem_allU hp hN hk).mp hS).2
    have c := counts_known _ hq k h12 hk S hS
    rw [← c, List.count, List.countP_map, List.countP_filter, List.countP_eq_length_filter]
    refine congrArg List.length (List.filter_congr fun L hL => ?_)
    obtain ⟨s1, _⟩ := sp L hL
    have s1 : spanK (P, N).1 (P, N).2 L = some (LA.redM P (invP P) L) := s1
    rw [s1]
    show (LA.redM P (invP P) L == S && decide ((LA.redM P (invP P) L).length = k)) = (some (LA.redM P (invP P) L) == some S)
    by_cases z : LA.redM P (invP P) L = S
    · rw [z]
      simp [lS]
    · have z1 : (LA.redM P (invP P) L == S) = false := by simpa using z
      rw [z1]
      simp [z]
  have pos := (each_pos _ hq k h12 hk).1
  have mem : ∀ S, S ∈ kvs.map (·.1) ↔ S ∈ LA.allU P N k := fun S => by
    rw [C.mem]
    constructor
    · intro z
      obtain ⟨L, hL, e⟩ := List.mem_map.mp z
      obtain ⟨hL, c⟩ := List.mem_filter.mp hL
      obtain ⟨_, k', hk', s2⟩ := sp L hL
      have l2 := ((LA.mem_allU hp hN hk').mp s2).2
      have c := of_decide_eq_true c
      rw [← e]
      have : k' = k := l2.symm.trans c
      subst this
      exact s2
    · intro z
      have c := up S z
      exact List.count_pos_iff.mp (by rw [c]; exact pos)
  refine ⟨fun S hS => ?_, ?_⟩
  · have h1 := (mem S).mp hS
    rw [C.val, if_pos ((C.mem S).mp hS), up S h1]
  · have nd := allU_nodup (P, N) (sets6_nine _ hq) k (by show k < N + 1; omega)
    have := ((List.perm_ext_iff_of_nodup C.nd nd).mpr mem).length_eq
    rw [List.length_map] at this
    exact this
end
theorem sum_rep (a : Int) : ∀ n : Nat, (List.replicate n a).sum = (n : Int) * a
  | 0 => by simp
  | n + 1 => by
    rw [List.replicate_succ, List.sum_cons, sum_rep a n, Int.natCast_add, Int.add_mul]
    omega
theorem law_true (D : DX) : True1 (F_law D) := by
  intro ns hn
  obtain ⟨w, hw, e1⟩ := pick ns [] (sets6.map fun q => OwN q.1 q.2) [] (by show 0 < 99990; omega) hn (by decide)
  obtain ⟨⟨P, N⟩, hq, rfl⟩ := List.mem_map.mp hw
  have hs := sets6_in _ hq
  have hs : (((P : Nat) : Int), ((N : Nat) : Int)) ∈ settings := hs
  have h9 : P ^ N ≤ 9 := sets6_pow _ hq
  obtain ⟨b1, b2, b3, b4⟩ := small hs
  haveI : NeZero P := ⟨by omega⟩
  have e1 : F__law_pick [Sc ns, .ref 0, .lst (sets6.map fun q => OwN q.1 q.2)] [.lst []] = .ok (OwN P N) [.lst [.int 0]] := e1
  obtain ⟨m, hm⟩ : ∃ m : Nat, m = if 2 < N then 2 else N := ⟨_, rfl⟩
  have mn : ∀ h, gMin2 [.int (N : Nat), .int 2] h = some (.int (m : Nat)) := fun h => by
    show some (DV.int (if (2 : Int) < (N : Nat) then 2 else (N : Nat))) = _
    rw [hm]
    by_cases c : 2 < N
    · rw [if_pos (by omega), if_pos c]; rfl
    · rw [if_neg (by omega), if_neg c]
  have hmm : 0 < m ∧ m ≤ 2 ∧ m ≤ N := by rw [hm]; split <;> omega
  obtain ⟨i, hi, e3⟩ := draw ns [.int 0] [] m (by show 1 < 99990; omega) hn hmm.1
  obtain ⟨k, hk⟩ : ∃ k : Nat, k = 1 + i := ⟨_, rfl⟩
  have h12 : k ∈ [1, 2] := by
    rcases (show k = 1 ∨ k = 2 by omega) with e | e <;> rw [e] <;> simp
  have hkN : k ≤ N := by omega
  have hk2 : k ≤ 2 := by omega
  have e3 : F__law_draw [Sc ns, .ref 0, .int (m : Nat)] [.lst [.int 0]] = .ok (.int (i : Nat)) [.lst [.int 0, .int 0]] := e3
  generalize hh : ([HC.lst [.int 0, .int 0]] : DH) = h at e3
  have ek : (1 : Int) + (i : Nat) = (k : Nat) := by omega
  have er := gRange1_nat (n := k) (by omega)
  have ll : ∀ j, j < k → (listsK P N j).length ≤ 81 := fun j hj => by
    rcases (show j = 0 ∨ j = 1 by omega) with rfl | rfl
    · show 1 ≤ 81; omega
    · exact (each_pos _ hq 1 (by simp) (by show 1 ≤ N; omega)).2.2
  obtain ⟨q5, q7, q11, i5, i7, i11, lB⟩ := loopB (P := P) (N := N) (ns := ns) (k := k) (q8 := .un) hs h9 hk2 ll h (intsFrom 0 k) 0 .un .un .un rfl rfl rfl (by rw [intsFrom_length]; omega)
  have lk81 : (listsK P N k).length ≤ 81 := (each_pos _ hq k h12 hkN).2.2
  obtain ⟨kvs, r7, r12, l1, C, j7, j12⟩ := loop1 (P := P) (N := N) (ns := ns) (k := k) (q4 := .val (.lst (Ll (listsK P N k)))) (q5 := q5) (q11 := q11) (D := D) hs rfl i5 i11 h (listsK P N k) [] [] q7 .un (fun L hL => by
    have := (spans_known _ hq k h12 hkN L hL).2
    have l := listsK_len k L hL
    exact ⟨LA.rowsB_ok this, by omega⟩) cntK_nil (by show 0 + _ ≤ _; omega) i7 rfl
  rw [List.nil_append] at C
  obtain ⟨vals, lens⟩ := table_ok hq h12 hkN C
  obtain ⟨q8, i8, l3⟩ := loop3 (P := P) (N := N) (ns := ns) (k := k) (q4 := .val (.lst (Ll (listsK P N k)))) (q5 := q5) (q6 := .dx D kvs) (q7 := r7) (q11 := q11) (q12 := r12) hs hkN h9 h (List.range k) 1 1 .un (fun x hx => by have := List.mem_range.mp hx; omega) (by
    rw [List.length_range]
    rcases (show k = 1 ∨ k = 2 by omega) with e | e <;> rw [e] <;> decide) (by
    rw [List.length_range]
    rcases (show k = 1 ∨ k = 2 by omega) with e | e <;> rw [e] <;> decide) rfl
  have l3 : loopF (tfN 8) body3 ((List.range k).map fun x => DV.int (x : Nat)) (lawS ns P N k (.val (.lst (Ll (listsK P N k)))) q5 (.dx D kvs) r7 .un q11 r12 (.val (.int 1)) (.val (.int 1)) .un) h
      = .ok (.next (lawS ns P N k (.val (.lst (Ll (listsK P N k)))) q5 (.dx D kvs) r7 q8 q11 r12 (.val (.int (totalK P N k : Nat))) (.val (.int (eachK P k : Nat))) .un)) h := l3
  have e0 := intsFrom_map k 0
  simp only [Nat.zero_add] at e0
  have e0' : intsFrom 0 k = (List.range k).map fun f => DV.int (f : Nat) := e0
  rw [← e0'] at l3
  obtain ⟨p1, p2, p3⟩ := each_pos _ hq k h12 hkN
  have p2 : (LA.allU P N k).length * eachK P k = totalK P N k := p2
  have cc := LA.count_checked _ (sets6_nine _ hq) k (by show k < N + 1; omega)
  have cc : (LA.allU P N k).length = LA.rule P N k := cc
  obtain ⟨m1, m2⟩ := small6 _ hq k h12 hkN
  have m1 : LA.rule P N k ≤ 100 := m1
  have m2 : eachK P k ≤ 100 := m2
  rw [cc] at lens p2
  have ct := count_sub_ok (P := P) (N := N) hs hkN h
  generalize LA.rule P N k = ru at *
  generalize eachK P k = ea at *
  generalize totalK P N k = tot at *
  have few : kvs.length ≤ 100000 := by omega
  have nI : ∀ a : Int, gNe (.int a) (.int a) = some (.bl false) := fun a => (enc_ne enc_int enc_int (a := a) (b := a)).trans (by rw [decide_eq_true rfl]; rfl)
  have qI : ∀ a : Int, gEq (.int a) (.int a) = some (.bl true) := fun a => (enc_eq enc_int enc_int (a := a) (b := a)).trans (by rw [decide_eq_true rfl])
  have nL : gNe (.lst []) (.lst []) = some (.bl false) := rfl
  have oD : onlyD 6 (lawS ns P N k (.val (.lst (Ll (listsK P N k)))) q5 (.dx D kvs) r7 q8 q11 r12 (.val (.int (tot : Nat))) (.val (.int (ea : Nat))) .un) = true := by
    simp only [onlyD, noD, i5, j7, i8, i11, j12, isD_val, isD_un, Bool.not_false, Bool.and_self]
  have g6 : getX D (lawS ns P N k (.val (.lst (Ll (listsK P N k)))) q5 (.dx D kvs) r7 q8 q11 r12 (.val (.int (tot : Nat))) (.val (.int (ea : Nat))) .un) 6 = some kvs := getX_of rfl
  have eset : (lawS ns P N k (.val (.lst (Ll (listsK P N k)))) q5 (.dx D kvs) r7 q8 q11 r12 (.val (.int (tot : Nat))) (.val (.int (ea : Nat))) .un).set 6 (.fdx D kvs) = lawS ns P N k (.val (.lst (Ll (listsK P N k)))) q5 (.fdx D kvs) r7 q8 q11 r12 (.val (.int (tot : Nat))) (.val (.int (ea : Nat))) .un := rfl
  have f6 : ∀ x, getFX D (lawS ns P N k (.val (.lst (Ll (listsK P N k)))) q5 (.fdx D kvs) r7 q8 q11 x (.val (.int (tot : Nat))) (.val (.int (ea : Nat))) .un) 6 = some kvs := fun x => getFX_of rfl
  have one : ∀ e ∈ kvs, dGetX D 6 (dVar 12) (lawS ns P N k (.val (.lst (Ll (listsK P N k)))) q5 (.fdx D kvs) r7 q8 q11 (.val (Sp' e.1)) (.val (.int (tot : Nat))) (.val (.int (ea : Nat))) .un) h = .ok (.int (ea : Nat)) h := fun e he => by
    have g12 : getS (lawS ns P N k (.val (.lst (Ll (listsK P N k)))) q5 (.fdx D kvs) r7 q8 q11 (.val (Sp' e.1)) (.val (.int (tot : Nat))) (.val (.int (ea : Nat))) .un) 12 = some (Sp' e.1) := rfl
    rw [dGetX_ap, f6, ofO_some, bind_ok, dVar_ap, g12, ofO_some, bind_ok, spI_sp]
    show ofO ((lkK kvs e.1).map DV.int) h = _
    rw [vals e.1 (List.mem_map_of_mem he)]; rfl
  have ks : dKeysX D 6 (lawS ns P N k (.val (.lst (Ll (listsK P N k)))) q5 (.fdx D kvs) r7 q8 q11 r12 (.val (.int (tot : Nat))) (.val (.int (ea : Nat))) .un) h = .ok (kvs.map fun e => Sp' e.1) h := by
    rw [dKeysX_ap, f6]; rfl
  have ew : wipeD (lawS ns P N k (.val (.lst (Ll (listsK P N k)))) q5 (.fdx D kvs) r7 q8 q11 r12 (.val (.int (tot : Nat))) (.val (.int (ea : Nat))) .un) [12] = lawS ns P N k (.val (.lst (Ll (listsK P N k)))) q5 (.fdx D kvs) r7 q8 q11 .un (.val (.int (tot : Nat))) (.val (.int (ea : Nat))) .un := rfl
  have c1 : dComp (dKeysX D 6) (tfN 12) dYes (dGetX D 6 (dVar 12)) [12] (lawS ns P N k (.val (.lst (Ll (listsK P N k)))) q5 (.fdx D kvs) r7 q8 q11 r12 (.val (.int (tot : Nat))) (.val (.int (ea : Nat))) .un) h = .ok (.lst ((List.replicate kvs.length ((ea : Nat) : Int)).map .int)) h := by
    have lp : loopC (tfN 12) dYes (dGetX D 6 (dVar 12)) (lawS ns P N k (.val (.lst (Ll (listsK P N k)))) q5 (.fdx D kvs) r7 q8 q11 .un (.val (.int (tot : Nat))) (.val (.int (ea : Nat))) .un) (kvs.map fun e => Sp' e.1) h = .ok (kvs.map fun _ => .int (ea : Nat)) h :=
      loopC_via (fun e : List (List Int) × Int => Sp' e.1) (fun _ => .int (ea : Nat)) kvs fun e he => ⟨_, rfl, one e he, rfl⟩
    have cl : le_cap (kvs.map fun e => Sp' e.1).length = true := le_cap_of (by rw [List.length_map]; exact few)
    have em : (kvs.map fun _ => DV.int (ea : Nat)) = (List.replicate kvs.length ((ea : Nat) : Int)).map .int := by
      rw [List.map_const', List.map_replicate]
    rw [dComp_ap, ks, bind_ok, cl, chk_true, ew, lp, noX_ok, bind_ok, em]
  have c2 : dComp (dKeysX D 6) (tfN 12) (dOp gNe (dGetX D 6 (dVar 12)) (dVar 14)) (dC (.int 1)) [12] (lawS ns P N k (.val (.lst (Ll (listsK P N k)))) q5 (.fdx D kvs) r7 q8 q11 r12 (.val (.int (tot : Nat))) (.val (.int (ea : Nat))) .un) h = .ok (.lst []) h := by
    have lp : loopC (tfN 12) (dOp gNe (dGetX D 6 (dVar 12)) (dVar 14)) (dC (.int 1)) (lawS ns P N k (.val (.lst (Ll (listsK P N k)))) q5 (.fdx D kvs) r7 q8 q11 .un (.val (.int (tot : Nat))) (.val (.int (ea : Nat))) .un) (kvs.map fun e => Sp' e.1) h = .ok ((kvs.filter fun _ => false).map fun _ => .int 1) h :=
      loopC_pick (fun e : List (List Int) × Int => Sp' e.1) (fun _ => .int 1) (fun _ => false) kvs fun e he => ⟨_, rfl, by
        have g14 : getS (lawS ns P N k (.val (.lst (Ll (listsK P N k)))) q5 (.fdx D kvs) r7 q8 q11 (.val (Sp' e.1)) (.val (.int (tot : Nat))) (.val (.int (ea : Nat))) .un) 14 = some (.int (ea : Nat)) := rfl
        show dOp gNe (dGetX D 6 (dVar 12)) (dVar 14) (lawS ns P N k (.val (.lst (Ll (listsK P N k)))) q5 (.fdx D kvs) r7 q8 q11 (.val (Sp' e.1)) (.val (.int (tot : Nat))) (.val (.int (ea : Nat))) .un) h = _
        rw [dOp_ap, one e he, bind_ok, dVar_ap, g14, ofO_some, bind_ok, nI]; rfl, fun z => nomatch z⟩
    have cl : le_cap (kvs.map fun e => Sp' e.1).length = true := le_cap_of (by rw [List.length_map]; exact few)
    have ef : (kvs.filter fun _ => false) = [] := List.filter_eq_nil_iff.mpr fun _ _ => Bool.false_ne_true
    rw [dComp_ap, ks, bind_ok, cl, chk_true, ew, lp, ef, noX_ok, bind_ok]; rfl
  have sm := gSum_ints (List.replicate kvs.length ((ea : Nat) : Int)) h
  have tt : (List.replicate kvs.length ((ea : Nat) : Int)).sum = (tot : Nat) := by
    rw [sum_rep, lens, ← p2, Int.natCast_mul]
  rw [tt] at sm
  have mo : gMul (.int (ru : Nat)) (.int (ea : Nat)) = some (.int (tot : Nat)) := by
    rw [gMul_int (.inl ⟨by omega, by omega⟩), ← p2, Int.natCast_mul]
  have hd : ∃ σ', d_law D [.val (Sc ns), .un, .un, .un, .un, .un, .un, .un, .un, .un, .un, .un, .un, .un, .un, .un] [] = σ' ∧ σ' = .ok (.ret (.bl true)) h := by
    refine ⟨_, rfl, ?_⟩
    unfold d_law
    refine go (σ' := [.val (Sc ns), .val (.ref 0), .un, .un, .un, .un, .un, .un, .un, .un, .un, .un, .un, .un, .un, .un]) (h' := [.lst []]) rfl ?_
    refine go (σ' := [.val (Sc ns), .val (.ref 0), .val (OwN P N), .un, .un, .un, .un, .un, .un, .un, .un, .un, .un, .un, .un, .un]) (h' := [.lst [.int 0]]) (by
      show (Res.bind (F__law_pick [Sc ns, .ref 0, .lst (sets6.map fun q => OwN q.1 q.2)] [.lst []]) _) = _
      rw [e1]; rfl) ?_
    refine go (σ' := [.val (Sc ns), .val (.ref 0), .val (OwN P N), .un, .un, .un, .un, .un, .un, .val (.int (P : Nat)), .val (.int (N : Nat)), .un, .un, .un, .un, .un]) (h' := [.lst [.int 0]]) rfl ?_
    refine go (σ' := lawS ns P N k .un .un .un .un .un .un .un .un .un .un) (h' := h) (by
      simp [mn, e3, ek]) ?_
    refine go (σ' := lawS ns P N k (.val (.lst (Ll (listsK P N 0)))) .un .un .un .un .un .un .un .un .un) (h' := h) rfl ?_
    refine go (σ' := lawS ns P N k (.val (.lst (Ll (listsK P N k)))) q5 .un q7 .un q11 .un .un .un .un) (h' := h) (by
      rw [dFor_ap]
      have es : dSrc gRange1 (daCons (dVar 3) daNil) (lawS ns P N k (.val (.lst (Ll (listsK P N 0)))) .un .un .un .un .un .un .un .un .un) h = .ok (intsFrom 0 k) h := by
        show ofO (gRange1 [.int (k : Nat)]) h = _
        rw [er]; rfl
      rw [es, bind_ok]
      exact lB) ?_
    refine go (σ' := lawS ns P N k (.val (.lst (Ll (listsK P N k)))) q5 (.dx D []) q7 .un q11 .un .un .un .un) (h' := h) rfl ?_
    refine go (σ' := lawS ns P N k (.val (.lst (Ll (listsK P N k)))) q5 (.dx D kvs) r7 .un q11 r12 .un .un .un) (h' := h) (by
      rw [dForV_ap, dFor_ap]
      exact l1) ?_
    refine go (σ' := lawS ns P N k (.val (.lst (Ll (listsK P N k)))) q5 (.dx D kvs) r7 .un q11 r12 (.val (.int 1)) (.val (.int 1)) .un) (h' := h) rfl ?_
    refine go (σ' := lawS ns P N k (.val (.lst (Ll (listsK P N k)))) q5 (.dx D kvs) r7 q8 q11 r12 (.val (.int (tot : Nat))) (.val (.int (ea : Nat))) .un) (h' := h) (by
      rw [dFor_ap]
      have es : dSrc gRange1 (daCons (dVar 3) daNil) (lawS ns P N k (.val (.lst (Ll (listsK P N k)))) q5 (.dx D kvs) r7 .un q11 r12 (.val (.int 1)) (.val (.int 1)) .un) h = .ok (intsFrom 0 k) h := by
        show ofO (gRange1 [.int (k : Nat)]) h = _
        rw [er]; rfl
      rw [es, bind_ok]
      exact l3) ?_
    refine go (σ' := lawS ns P N k (.val (.lst (Ll (listsK P N k)))) q5 (.fdx D kvs) r7 q8 q11 r12 (.val (.int (tot : Nat))) (.val (.int (ea : Nat))) .un) (h' := h) (by
      have g13 : getS (lawS ns P N k (.val (.lst (Ll (listsK P N k)))) q5 (.fdx D kvs) r7 q8 q11 r12 (.val (.int (tot : Nat))) (.val (.int (ea : Nat))) .un) 13 = some (.int (tot : Nat)) := rfl
      rw [dLockX_ap, oD, chk_true, g6, ofO_some, bind_ok, eset]
      generalize lawS ns P N k (.val (.lst (Ll (listsK P N k)))) q5 (.fdx D kvs) r7 q8 q11 r12 (.val (.int (tot : Nat))) (.val (.int (ea : Nat))) .un = σ at *
      rw [dIfS_ap, dOr_ap, dOp_ap, dFn_ap, daCons_ap, c1, bind_ok, daNil_ap, bind_ok, bind_ok, sm, ofO_some, bind_ok, dVar_ap, g13, ofO_some, bind_ok, nI, ofO_some, bind_ok]
      show Res.bind (dOp gNe _ _ σ h) _ = _
      rw [dOp_ap, c2, bind_ok]
      show Res.bind (Res.bind (.ok (.lst []) h) fun b h2 => ofO (gNe (.lst []) b) h2) _ = _
      rw [bind_ok, nL]; rfl) ?_
    have g13 : getS (lawS ns P N k (.val (.lst (Ll (listsK P N k)))) q5 (.fdx D kvs) r7 q8 q11 r12 (.val (.int (tot : Nat))) (.val (.int (ea : Nat))) .un) 13 = some (.int (tot : Nat)) := rfl
    have g14 : getS (lawS ns P N k (.val (.lst (Ll (listsK P N k)))) q5 (.fdx D kvs) r7 q8 q11 r12 (.val (.int (tot : Nat))) (.val (.int (ea : Nat))) .un) 14 = some (.int (ea : Nat)) := rfl
    have dl : dLenX D 6 (lawS ns P N k (.val (.lst (Ll (listsK P N k)))) q5 (.fdx D kvs) r7 q8 q11 r12 (.val (.int (tot : Nat))) (.val (.int (ea : Nat))) .un) h = .ok (.int (ru : Nat)) h := by
      rw [dLenX_ap, f6]
      show Res.ok (DV.int (kvs.length : Nat)) h = _
      rw [lens]
    have dc : dCall 2 F_count_subspaces (daCons (dVar 2) (daCons (dVar 3) daNil)) (lawS ns P N k (.val (.lst (Ll (listsK P N k)))) q5 (.fdx D kvs) r7 q8 q11 r12 (.val (.int (tot : Nat))) (.val (.int (ea : Nat))) .un) h = .ok (.int (ru : Nat)) h := by
      show F_count_subspaces [OwN P N, .int (k : Nat)] h = _
      exact ct
    generalize lawS ns P N k (.val (.lst (Ll (listsK P N k)))) q5 (.fdx D kvs) r7 q8 q11 r12 (.val (.int (tot : Nat))) (.val (.int (ea : Nat))) .un = σ at *
    rw [dRet_ap, dAnd_ap, dOp_ap, dl, bind_ok, dc, bind_ok, qI, ofO_some, bind_ok]
    show Res.bind (dOp gEq _ _ σ h) _ = _
    rw [dOp_ap, dOp_ap, dc, bind_ok, dVar_ap, g14, ofO_some, bind_ok, mo, ofO_some, bind_ok, dVar_ap, g13, ofO_some, bind_ok, qI]; rfl
  obtain ⟨_, hd, rfl⟩ := hd
  refine ⟨h, ?_⟩
  show (runF 1 16 (d_law D) [.brw (ns.map .int)] []) = _
  rw [runF1]
  show (d_law D [.val (Sc ns), .un, .un, .un, .un, .un, .un, .un, .un, .un, .un, .un, .un, .un, .un, .un] []).bind finish = _
  rw [hd]; rfl
end M
namespace K19
open PySem PySem.Spec PyProof.Rows L2 DL M
def top (i : Nat) : Stmt := PySem.Challenge.pw_smallspaces_k19_whole_chosen_rows.main.body.getD i (.Pass ⟨0, 0, 0, 0⟩)
structure Txt (P : Program) (w : World) (K : PySem.W.Frag) (mg : Str → Option Value) (A_InvalidNumber : Addr) (A_InvalidRows : Addr) (A_InvalidSetting : Addr) (A_LONGEST : Addr) : Prop where
  n_InvalidNumber : mg "InvalidNumber" = some (.ref A_InvalidNumber)
  x_InvalidNumber : PySem.W.excIn K A_InvalidNumber [.type "ValueError", .type "Exception", .type "BaseException", .type "object"] "ValueError.__new__" = true
  kc_InvalidNumber : PySem.W.keepIn K (.ref A_InvalidNumber) = true
  b_InvalidNumber : PySem.W.subIn K (.ref A_InvalidNumber) (.type "BaseException") = some true
  t_InvalidNumber : PySem.W.typeIn K (.ref A_InvalidNumber) = some (.type "type")
  n_InvalidRows : mg "InvalidRows" = some (.ref A_InvalidRows)
  x_InvalidRows : PySem.W.excIn K A_InvalidRows [.type "ValueError", .type "Exception", .type "BaseException", .type "object"] "ValueError.__new__" = true
  kc_InvalidRows : PySem.W.keepIn K (.ref A_InvalidRows) = true
  b_InvalidRows : PySem.W.subIn K (.ref A_InvalidRows) (.type "BaseException") = some true
  t_InvalidRows : PySem.W.typeIn K (.ref A_InvalidRows) = some (.type "type")
  n_InvalidSetting : mg "InvalidSetting" = some (.ref A_InvalidSetting)
  x_InvalidSetting : PySem.W.excIn K A_InvalidSetting [.type "ValueError", .type "Exception", .type "BaseException", .type "object"] "ValueError.__new__" = true
  kc_InvalidSetting : PySem.W.keepIn K (.ref A_InvalidSetting) = true
  b_InvalidSetting : PySem.W.subIn K (.ref A_InvalidSetting) (.type "BaseException") = some true
  t_InvalidSetting : PySem.W.typeIn K (.ref A_InvalidSetting) = some (.type "type")
  n_LONGEST : mg "LONGEST" = some (.ref A_LONGEST)
  k_LONGEST : KDI K A_LONGEST kv_LONGEST
  n_MOST_ROWS : ∃ t, mg "MOST_ROWS" = some (.int 12 t)
  n_all : mg "all" = none
  n_bool : mg "bool" = none
  n_enumerate : mg "enumerate" = none
  n_int : mg "int" = none
  n_isinstance : mg "isinstance" = none
  n_len : mg "len" = none
  n_list : mg "list" = none
  n_min : mg "min" = none
  n_range : mg "range" = none
  n_sorted : mg "sorted" = none
  n_sum : mg "sum" = none
  n_tuple : mg "tuple" = none
  n_zip : mg "zip" = none
section
variable {P : Program} {w : World} {K : PySem.W.Frag} {mg : Str → Option Value} {base : Heap} {A_InvalidNumber : Addr} {A_InvalidRows : Addr} {A_InvalidSetting : Addr} {A_LONGEST : Addr} 
abbrev st_is_number : Stmt := top 7
theorem sc_is_number : FnScope ["value", "low", "high"] ["value", "low", "high"] (defScope st_is_number) := ⟨rfl, rfl, rfl, by decide +kernel, rfl, by decide +kernel, by decide +kernel⟩
theorem ok_is_number {f : Addr} {fd : FuncData} (T : Txt P w K mg A_InvalidNumber A_InvalidRows A_InvalidSetting A_LONGEST) (Fu : L2.Fun K "is_number" "is_number" st_is_number f fd)  : FnOk P w K mg base (L2.CX P w) 1 f fd ["value", "low", "high"] (spD K mg 3 F_is_number) := by
  refine fn_ok (d := d_is_number) Fu sc_is_number rfl rfl fun cdv A outer s H E hr => ?_
  exact (ss_cons (ss_if (PW.pt (sw_or (st_not (st_val (se_bi b_isi (by rfl) T.n_isinstance (by decide +kernel) (sa_cons (se_var (pv 0)) (sa_cons (se_ty (n := "int") (by rfl) T.n_int (by decide +kernel)) sa_nil))))) (sw_or1 (st_val (se_bi b_isi (by rfl) T.n_isinstance (by decide +kernel) (sa_cons (se_var (pv 0)) (sa_cons (se_ty (n := "bool") (by rfl) T.n_bool (by decide +kernel)) sa_nil))))))) (ss_one (ss_ret se_bl)) ss_nil)
    (ss_one (ss_ret (se_c2 c_le c_le (se_var (pv 1)) (se_var (pv 0)) (se_var (pv 2))))))
abbrev st_check_number : Stmt := top 8
theorem sc_check_number : FnScope ["value", "greatest"] ["value", "greatest"] (defScope st_check_number) := ⟨rfl, rfl, rfl, by decide +kernel, rfl, by decide +kernel, by decide +kernel⟩
theorem ok_check_number {f : Addr} {fd : FuncData} (T : Txt P w K mg A_InvalidNumber A_InvalidRows A_InvalidSetting A_LONGEST) (Fu : L2.Fun K "check_number" "check_number" st_check_number f fd) (h_is_number : DefOk P w K mg base "is_number" 1 3 F_is_number) : FnOk P w K mg base (L2.CX P w) 2 f fd ["value", "greatest"] (spD K mg 2 F_check_number) := by
  refine fn_ok (d := d_check_number) Fu sc_check_number rfl rfl fun cdv A outer s H E hr => ?_
  exact (ss_one (ss_if (st_not (st_val (se_own lets h_is_number hr (by decide) (by rfl) (sa_cons (se_var (pv 0)) (sa_cons se_int (sa_cons (se_var (pv 1)) sa_nil)))))) (ss_one (ss_raiseF (i := 1) rfl (takes_of rfl rfl rfl rfl) (SkE.pmk_own1 PySem.F.excBase_ValueError T.x_InvalidNumber T.n_InvalidNumber T.kc_InvalidNumber (raises_own T.b_InvalidNumber T.t_InvalidNumber) (by rfl) (pe_joined (.cons pe_str (.cons (pe_fmt (pv 1)) .nil)))) T.n_InvalidNumber (by decide))) ss_nil))
abbrev st_is_setting : Stmt := top 9
theorem sc_is_setting : FnScope ["value", "p", "n"] ["value"] (defScope st_is_setting) := ⟨rfl, rfl, rfl, by decide +kernel, rfl, by decide +kernel, by decide +kernel⟩
theorem ok_is_setting {f : Addr} {fd : FuncData} (T : Txt P w K mg A_InvalidNumber A_InvalidRows A_InvalidSetting A_LONGEST) (Fu : L2.Fun K "is_setting" "is_setting" st_is_setting f fd) (h_is_number : DefOk P w K mg base "is_number" 1 3 F_is_number) : FnOk P w K mg base (L2.CX P w) 2 f fd ["value"] (spD K mg 1 F_is_setting) := by
  refine fn_ok (d := d_is_setting) Fu sc_is_setting rfl rfl fun cdv A outer s H E hr => ?_
  exact (ss_cons (ss_if (PW.pt (sw_or (st_not (st_val (se_bi b_isi (by rfl) T.n_isinstance (by decide +kernel) (sa_cons (se_var (pv 0)) (sa_cons (se_ty (n := "tuple") (by rfl) T.n_tuple (by decide +kernel)) sa_nil))))) (sw_or1 (st_c1 (c_ne hr) (se_bi b_len (by rfl) T.n_len (by decide +kernel) (sa_cons (se_var (pv 0)) sa_nil)) se_int)))) (ss_one (ss_ret se_bl)) ss_nil)
    (ss_cons (ss_asg (se_var (pv 0)) (pg_tup rfl (pgs_cons (pg_name (i := 1) sc_is_setting.nd rfl (by first | exact Or.inl rfl | exact Or.inr rfl)) (pgs_cons (pg_name (i := 2) sc_is_setting.nd rfl (by first | exact Or.inl rfl | exact Or.inr rfl)) pgs_nil))) (gd_tup (n := 2) (gds_cons gd_name (gds_cons gd_name gds_nil))))
    (ss_one (ss_ret (se_and (se_own lets h_is_number hr (by decide) (by rfl) (sa_cons (se_var (pv 1)) (sa_cons se_int (sa_cons se_int sa_nil)))) (se_and (se_kin T.k_LONGEST (by rfl) T.n_LONGEST (se_var (pv 1))) (se_one (se_own lets h_is_number hr (by decide) (by rfl) (sa_cons (se_var (pv 2)) (sa_cons se_int (sa_cons (se_kix T.k_LONGEST (by rfl) T.n_LONGEST (se_var (pv 1)) (fun _ _ => rfl)) sa_nil)))))))))))
abbrev st_check_setting : Stmt := top 10
theorem sc_check_setting : FnScope ["setting"] ["setting"] (defScope st_check_setting) := ⟨rfl, rfl, rfl, by decide +kernel, rfl, by decide +kernel, by decide +kernel⟩
theorem ok_check_setting {f : Addr} {fd : FuncData} (T : Txt P w K mg A_InvalidNumber A_InvalidRows A_InvalidSetting A_LONGEST) (Fu : L2.Fun K "check_setting" "check_setting" st_check_setting f fd) (h_is_setting : DefOk P w K mg base "is_setting" 2 1 F_is_setting) : FnOk P w K mg base (L2.CX P w) 3 f fd ["setting"] (spD K mg 1 F_check_setting) := by
  refine fn_ok (d := d_check_setting) Fu sc_check_setting rfl rfl fun cdv A outer s H E hr => ?_
  exact (ss_one (ss_if (st_not (st_val (se_own lets h_is_setting hr (by decide) (by rfl) (sa_cons (se_var (pv 0)) sa_nil)))) (ss_one (ss_raise rfl (takes_of rfl rfl rfl rfl) (pmk_own PySem.F.excBase_ValueError T.x_InvalidSetting T.n_InvalidSetting T.kc_InvalidSetting (raises_own T.b_InvalidSetting T.t_InvalidSetting) (by rfl)) T.n_InvalidSetting)) ss_nil))
abbrev st_is_row : Stmt := top 11
theorem sc_is_row : FnScope ["setting", "value", "p", "n", "entry"] ["setting", "value"] (defScope st_is_row) := ⟨rfl, rfl, rfl, by decide +kernel, rfl, by decide +kernel, by decide +kernel⟩
theorem ok_is_row {f : Addr} {fd : FuncData} (T : Txt P w K mg A_InvalidNumber A_InvalidRows A_InvalidSetting A_LONGEST) (Fu : L2.Fun K "is_row" "is_row" st_is_row f fd) (h_check_setting : DefOk P w K mg base "check_setting" 3 1 F_check_setting) (h_is_number : DefOk P w K mg base "is_number" 1 3 F_is_number) : FnOk P w K mg base (L2.CX P w) 4 f fd ["setting", "value"] (spD K mg 2 F_is_row) := by
  refine fn_ok (d := d_is_row) Fu sc_is_row rfl rfl fun cdv A outer s H E hr => ?_
  exact (ss_cons (ss_expr (se_own lets h_check_setting hr (by decide) (by rfl) (sa_cons (se_var (pv 0)) sa_nil)))
    (ss_cons (ss_asg (se_var (pv 0)) (pg_tup rfl (pgs_cons (pg_name (i := 2) sc_is_row.nd rfl (by first | exact Or.inl rfl | exact Or.inr rfl)) (pgs_cons (pg_name (i := 3) sc_is_row.nd rfl (by first | exact Or.inl rfl | exact Or.inr rfl)) pgs_nil))) (gd_tup (n := 2) (gds_cons gd_name (gds_cons gd_name gds_nil))))
    (ss_cons (ss_if (PW.pt (sw_or (st_not (st_val (se_bi b_isi (by rfl) T.n_isinstance (by decide +kernel) (sa_cons (se_var (pv 1)) (sa_cons (se_ty (n := "tuple") (by rfl) T.n_tuple (by decide +kernel)) sa_nil))))) (sw_or1 (st_c1 (c_ne hr) (se_bi b_len (by rfl) T.n_len (by decide +kernel) (sa_cons (se_var (pv 1)) sa_nil)) (se_var (pv 3)))))) (ss_one (ss_ret se_bl)) ss_nil)
    (ss_one (ss_ret (se_bi (b_all rfl) (by rfl) T.n_all (by decide +kernel) (sa_cons (se_comp rfl sc_is_row.nd (si_seq (se_var (pv 1))) (blkOk_by (own := [("entry", 4)]) (N := ["setting", "value", "p", "n", "entry"]) (sc := defScope st_is_row) (by decide +kernel)) rfl (fun _ _ _ _ _ => (pg_name (i := 4) sc_is_row.nd rfl (by first | exact Or.inl rfl | exact Or.inr rfl))) (gc_name (by decide)) (fun _ _ _ _ _ => sts_nil) (fun _ _ _ _ _ => (se_own lets0 h_is_number hr (by decide) (by rfl) (sa_cons (se_var (pv 4)) (sa_cons se_int (sa_cons (se_sub (se_var (pv 2)) se_int) sa_nil)))))) sa_nil)))))))
abbrev st_add_multiple : Stmt := top 12
theorem sc_add_multiple : FnScope ["p", "one", "factor", "other", "entry", "added"] ["p", "one", "factor", "other"] (defScope st_add_multiple) := ⟨rfl, rfl, rfl, by decide +kernel, rfl, by decide +kernel, by decide +kernel⟩
theorem ok_add_multiple {f : Addr} {fd : FuncData} (T : Txt P w K mg A_InvalidNumber A_InvalidRows A_InvalidSetting A_LONGEST) (Fu : L2.Fun K "add_multiple" "add_multiple" st_add_multiple f fd)  : FnOk P w K mg base (L2.CX P w) 1 f fd ["p", "one", "factor", "other"] (spD K mg 4 F_add_multiple) := by
  refine fn_ok (d := d_add_multiple) Fu sc_add_multiple rfl rfl fun cdv A outer s H E hr => ?_
  exact (ss_one (ss_ret (se_bt b_tuple (by rfl) T.n_tuple (by decide +kernel) (sa_cons (se_comp rfl sc_add_multiple.nd (si_zip (by rfl) T.n_zip (sa_cons (se_var (pv 1)) (sa_cons (se_var (pv 3)) sa_nil))) (blkOk_by (own := [("entry", 4), ("added", 5)]) (N := ["p", "one", "factor", "other", "entry", "added"]) (sc := defScope st_add_multiple) (by decide +kernel)) rfl (fun _ _ _ _ _ => (pg_tup rfl (pgs_cons (pg_name (i := 4) sc_add_multiple.nd rfl (by first | exact Or.inl rfl | exact Or.inr rfl)) (pgs_cons (pg_name (i := 5) sc_add_multiple.nd rfl (by first | exact Or.inl rfl | exact Or.inr rfl)) pgs_nil)))) (gc_tup (n := 2) (gcs_cons (gc_name (by decide)) (gcs_cons (gc_name (by decide)) gcs_nil))) (fun _ _ _ _ _ => sts_nil) (fun _ _ _ _ _ => (se_mod (se_add (se_var (pv 4)) (se_mul (se_var (pv 2)) (se_var (pv 5)))) (se_var (pv 0))))) sa_nil))))
abbrev st_leading_place : Stmt := top 15
theorem sc_leading_place : FnScope ["row", "place", "entry"] ["row"] (defScope st_leading_place) := ⟨rfl, rfl, rfl, by decide +kernel, rfl, by decide +kernel, by decide +kernel⟩
theorem ok_leading_place {f : Addr} {fd : FuncData} (T : Txt P w K mg A_InvalidNumber A_InvalidRows A_InvalidSetting A_LONGEST) (Fu : L2.Fun K "leading_place" "leading_place" st_leading_place f fd)  : FnOk P w K mg base (L2.CX P w) 1 f fd ["row"] (spD K mg 1 F_leading_place) := by
  refine fn_ok (d := d_leading_place) Fu sc_leading_place rfl rfl fun cdv A outer s H E hr => ?_
  exact (ss_cons (ss_for goesOn rfl (si_enum (by rfl) T.n_enumerate (sa_cons (se_var (pv 0)) sa_nil)) (pg_tup rfl (pgs_cons (pg_name (i := 1) sc_leading_place.nd rfl (by first | exact Or.inl rfl | exact Or.inr rfl)) (pgs_cons (pg_name (i := 2) sc_leading_place.nd rfl (by first | exact Or.inl rfl | exact Or.inr rfl)) pgs_nil))) (gd_tup (n := 2) (gds_cons gd_name (gds_cons gd_name gds_nil))) (ss_one (ss_if (st_c1 (c_ne hr) (se_var (pv 2)) se_int) (ss_one (ss_retV (pv 1))) ss_nil)))
    (ss_one (ss_ret se_non)))
abbrev st_with_leading_one : Stmt := top 16
theorem sc_with_leading_one : FnScope ["p", "row", "leading", "factor", "entry"] ["p", "row"] (defScope st_with_leading_one) := ⟨rfl, rfl, rfl, by decide +kernel, rfl, by decide +kernel, by decide +kernel⟩
theorem ok_with_leading_one {f : Addr} {fd : FuncData} (T : Txt P w K mg A_InvalidNumber A_InvalidRows A_InvalidSetting A_LONGEST) (Fu : L2.Fun K "with_leading_one" "with_leading_one" st_with_leading_one f fd) (h_leading_place : DefOk P w K mg base "leading_place" 1 1 F_leading_place) : FnOk P w K mg base (L2.CX P w) 2 f fd ["p", "row"] (spD K mg 2 F_with_leading_one) := by
  refine fn_ok (d := d_with_leading_one) Fu sc_with_leading_one rfl rfl fun cdv A outer s H E hr => ?_
  exact (ss_cons (ss_set (ps_set (i := 2) sc_with_leading_one.nd rfl (by first | exact Or.inl rfl | exact Or.inr rfl) (se_item (se_var (pv 1)) (se_own lets h_leading_place hr (by decide) (by rfl) (sa_cons (se_var (pv 1)) sa_nil)) (fun _ _ => rfl))))
    (ss_cons (ss_set (ps_set (i := 3) sc_with_leading_one.nd rfl (by first | exact Or.inl rfl | exact Or.inr rfl) se_int))
    (ss_cons (ss_while (n := fuel) goesOn (st_c1 (c_ne hr) (se_mod (se_mul (se_var (pv 3)) (se_var (pv 2))) (se_var (pv 0))) se_int) (ss_one (ss_aug_add (i := 3) sc_with_leading_one.nd rfl (by first | exact Or.inl rfl | exact Or.inr rfl) se_int)))
    (ss_one (ss_ret (se_bt b_tuple (by rfl) T.n_tuple (by decide +kernel) (sa_cons (se_comp rfl sc_with_leading_one.nd (si_seq (se_var (pv 1))) (blkOk_by (own := [("entry", 4)]) (N := ["p", "row", "leading", "factor", "entry"]) (sc := defScope st_with_leading_one) (by decide +kernel)) rfl (fun _ _ _ _ _ => (pg_name (i := 4) sc_with_leading_one.nd rfl (by first | exact Or.inl rfl | exact Or.inr rfl))) (gc_name (by decide)) (fun _ _ _ _ _ => sts_nil) (fun _ _ _ _ _ => (se_mod (se_mul (se_var (pv 3)) (se_var (pv 4))) (se_var (pv 0))))) sa_nil)))))))
abbrev st_cleared : Stmt := top 17
theorem sc_cleared : FnScope ["p", "row", "base"] ["p", "row", "base"] (defScope st_cleared) := ⟨rfl, rfl, rfl, by decide +kernel, rfl, by decide +kernel, by decide +kernel⟩
theorem ok_cleared {f : Addr} {fd : FuncData} (T : Txt P w K mg A_InvalidNumber A_InvalidRows A_InvalidSetting A_LONGEST) (Fu : L2.Fun K "cleared" "cleared" st_cleared f fd) (h_add_multiple : DefOk P w K mg base "add_multiple" 1 4 F_add_multiple) (h_leading_place : DefOk P w K mg base "leading_place" 1 1 F_leading_place) : FnOk P w K mg base (L2.CX P w) 2 f fd ["p", "row", "base"] (spD K mg 3 F_cleared) := by
  refine fn_ok (d := d_cleared) Fu sc_cleared rfl rfl fun cdv A outer s H E hr => ?_
  exact (ss_one (ss_ret (se_own lets h_add_multiple hr (by decide) (by rfl) (sa_cons (se_var (pv 0)) (sa_cons (se_var (pv 1)) (sa_cons (se_neg (se_item (se_var (pv 1)) (se_own lets h_leading_place hr (by decide) (by rfl) (sa_cons (se_var (pv 2)) sa_nil)) (fun _ _ => rfl))) (sa_cons (se_var (pv 2)) sa_nil)))))))
abbrev st_remainder : Stmt := top 18
theorem sc_remainder : FnScope ["p", "reduced", "row", "left", "base"] ["p", "reduced", "row"] (defScope st_remainder) := ⟨rfl, rfl, rfl, by decide +kernel, rfl, by decide +kernel, by decide +kernel⟩
theorem ok_remainder {f : Addr} {fd : FuncData} (T : Txt P w K mg A_InvalidNumber A_InvalidRows A_InvalidSetting A_LONGEST) (Fu : L2.Fun K "remainder" "remainder" st_remainder f fd) (h_cleared : DefOk P w K mg base "cleared" 2 3 F_cleared) : FnOk P w K mg base (L2.CX P w) 3 f fd ["p", "reduced", "row"] (spD K mg 3 F_remainder) := by
  refine fn_ok (d := d_remainder) Fu sc_remainder rfl rfl fun cdv A outer s H E hr => ?_
  exact (ss_cons (ss_setV (ps_set (i := 3) sc_remainder.nd rfl (by first | exact Or.inl rfl | exact Or.inr rfl) (pv 2)))
    (ss_cons (ss_forV (i := 1) goesOn rfl (si_slot (pv 1)) (pg_name (i := 4) sc_remainder.nd rfl (by first | exact Or.inl rfl | exact Or.inr rfl)) gd_name (ss_one (ss_set (ps_set (i := 3) sc_remainder.nd rfl (by first | exact Or.inl rfl | exact Or.inr rfl) (se_own lets h_cleared hr (by decide) (by rfl) (sa_cons (se_var (pv 0)) (sa_cons (se_var (pv 3)) (sa_cons (se_var (pv 4)) sa_nil))))))))
    (ss_one (ss_retV (pv 3)))))
abbrev st_reduced_rows : Stmt := top 19
theorem sc_reduced_rows : FnScope ["p", "rows", "found", "row", "left", "base", "other"] ["p", "rows"] (defScope st_reduced_rows) := ⟨rfl, rfl, rfl, by decide +kernel, rfl, by decide +kernel, by decide +kernel⟩
theorem ok_reduced_rows {f : Addr} {fd : FuncData} (T : Txt P w K mg A_InvalidNumber A_InvalidRows A_InvalidSetting A_LONGEST) (Fu : L2.Fun K "reduced_rows" "reduced_rows" st_reduced_rows f fd) (h_remainder : DefOk P w K mg base "remainder" 3 3 F_remainder) (h_leading_place : DefOk P w K mg base "leading_place" 1 1 F_leading_place) (h_with_leading_one : DefOk P w K mg base "with_leading_one" 2 2 F_with_leading_one) (h_cleared : DefOk P w K mg base "cleared" 2 3 F_cleared) : FnOk P w K mg base (L2.CX P w) 4 f fd ["p", "rows"] (spD K mg 2 F_reduced_rows) := by
  refine fn_ok (d := d_reduced_rows) Fu sc_reduced_rows rfl rfl fun cdv A outer s H E hr => ?_
  exact (ss_cons (ss_set (ps_set (i := 2) sc_reduced_rows.nd rfl (by first | exact Or.inl rfl | exact Or.inr rfl) (se_lst sa_nil)))
    (ss_cons (ss_forV (i := 1) goesOn rfl (si_slot (pv 1)) (pg_name (i := 3) sc_reduced_rows.nd rfl (by first | exact Or.inl rfl | exact Or.inr rfl)) gd_name (ss_cons (ss_set (ps_set (i := 4) sc_reduced_rows.nd rfl (by first | exact Or.inl rfl | exact Or.inr rfl) (se_own lets h_remainder hr (by decide) (by rfl) (sa_cons (se_var (pv 0)) (sa_cons (se_var (pv 2)) (sa_cons (se_var (pv 3)) sa_nil))))))
    (ss_one (ss_if (st_c1 c_isnot (se_own lets h_leading_place hr (by decide) (by rfl) (sa_cons (se_var (pv 4)) sa_nil)) se_non) (ss_cons (ss_set (ps_set (i := 5) sc_reduced_rows.nd rfl (by first | exact Or.inl rfl | exact Or.inr rfl) (se_own lets h_with_leading_one hr (by decide) (by rfl) (sa_cons (se_var (pv 0)) (sa_cons (se_var (pv 4)) sa_nil)))))
    (ss_one (ss_set (ps_set (i := 2) sc_reduced_rows.nd rfl (by first | exact Or.inl rfl | exact Or.inr rfl) (se_add (se_comp rfl sc_reduced_rows.nd (si_seq (se_var (pv 2))) (blkOk_by (own := [("other", 6)]) (N := ["p", "rows", "found", "row", "left", "base", "other"]) (sc := defScope st_reduced_rows) (by decide +kernel)) rfl (fun _ _ _ _ _ => (pg_name (i := 6) sc_reduced_rows.nd rfl (by first | exact Or.inl rfl | exact Or.inr rfl))) (gc_name (by decide)) (fun _ _ _ _ _ => sts_nil) (fun _ _ _ _ _ => (se_own lets0 h_cleared hr (by decide) (by rfl) (sa_cons (se_var (pv 0)) (sa_cons (se_var (pv 6)) (sa_cons (se_var (pv 5)) sa_nil)))))) (se_lst (sa_cons (se_var (pv 5)) sa_nil))))))) ss_nil))))
    (ss_one (ss_ret (se_bt b_tuple (by rfl) T.n_tuple (by decide +kernel) (sa_cons (se_sortKey h_leading_place hr (by decide) (by rfl) T.n_sorted (by decide +kernel) (by rfl) (se_var (pv 2))) sa_nil))))))
abbrev st_span : Stmt := top 20
theorem sc_span : FnScope ["setting", "rows", "row"] ["setting", "rows"] (defScope st_span) := ⟨rfl, rfl, rfl, by decide +kernel, rfl, by decide +kernel, by decide +kernel⟩
theorem ok_span {f : Addr} {fd : FuncData} (T : Txt P w K mg A_InvalidNumber A_InvalidRows A_InvalidSetting A_LONGEST) (Fu : L2.Fun K "span" "span" st_span f fd) (h_check_setting : DefOk P w K mg base "check_setting" 3 1 F_check_setting) (h_is_row : DefOk P w K mg base "is_row" 4 2 F_is_row) (h_reduced_rows : DefOk P w K mg base "reduced_rows" 4 2 F_reduced_rows) : FnOk P w K mg base (L2.CX P w) 5 f fd ["setting", "rows"] (spD K mg 2 F_span) := by
  refine fn_ok (d := d_span) Fu sc_span rfl rfl fun cdv A outer s H E hr => ?_
  exact (ss_cons (ss_expr (se_own lets h_check_setting hr (by decide) (by rfl) (sa_cons (se_var (pv 0)) sa_nil)))
    (ss_cons (ss_if (PW.pt (sw_or (st_not (st_val (se_bi b_isi (by rfl) T.n_isinstance (by decide +kernel) (sa_cons (se_var (pv 1)) (sa_cons (se_ty (n := "list") (by rfl) T.n_list (by decide +kernel)) sa_nil))))) (sw_or (st_c1 c_gt (se_bi b_len (by rfl) T.n_len (by decide +kernel) (sa_cons (se_var (pv 1)) sa_nil)) (se_int_c (by rfl) T.n_MOST_ROWS)) (sw_or1 (st_not (st_val (se_bi (b_all rfl) (by rfl) T.n_all (by decide +kernel) (sa_cons (se_comp rfl sc_span.nd (si_seq (se_var (pv 1))) (blkOk_by (own := [("row", 2)]) (N := ["setting", "rows", "row"]) (sc := defScope st_span) (by decide +kernel)) rfl (fun _ _ _ _ _ => (pg_name (i := 2) sc_span.nd rfl (by first | exact Or.inl rfl | exact Or.inr rfl))) (gc_name (by decide)) (fun _ _ _ _ _ => sts_nil) (fun _ _ _ _ _ => (se_own lets0 h_is_row hr (by decide) (by rfl) (sa_cons (se_var (pv 0)) (sa_cons (se_var (pv 2)) sa_nil))))) sa_nil)))))))) (ss_one (ss_raise rfl (takes_of rfl rfl rfl rfl) (pmk_own PySem.F.excBase_ValueError T.x_InvalidRows T.n_InvalidRows T.kc_InvalidRows (raises_own T.b_InvalidRows T.t_InvalidRows) (by rfl)) T.n_InvalidRows)) ss_nil)
    (ss_one (ss_ret (se_own lets h_reduced_rows hr (by decide) (by rfl) (sa_cons (se_item (se_var (pv 0)) se_int (fun _ _ => rfl)) (sa_cons (se_var (pv 1)) sa_nil)))))))
abbrev st_power : Stmt := top 22
theorem sc_power : FnScope ["base", "exponent", "result", "_"] ["base", "exponent"] (defScope st_power) := ⟨rfl, rfl, rfl, by decide +kernel, rfl, by decide +kernel, by decide +kernel⟩
theorem ok_power {f : Addr} {fd : FuncData} (T : Txt P w K mg A_InvalidNumber A_InvalidRows A_InvalidSetting A_LONGEST) (Fu : L2.Fun K "power" "power" st_power f fd)  : FnOk P w K mg base (L2.CX P w) 1 f fd ["base", "exponent"] (spD K mg 2 F_power) := by
  refine fn_ok (d := d_power) Fu sc_power rfl rfl fun cdv A outer s H E hr => ?_
  exact (ss_cons (ss_set (ps_set (i := 2) sc_power.nd rfl (by first | exact Or.inl rfl | exact Or.inr rfl) se_int))
    (ss_cons (ss_for goesOn rfl (si_range1 (by rfl) T.n_range (sa_cons (se_var (pv 1)) sa_nil)) (pg_name (i := 3) sc_power.nd rfl (by first | exact Or.inl rfl | exact Or.inr rfl)) gd_name (ss_one (ss_set (ps_set (i := 2) sc_power.nd rfl (by first | exact Or.inl rfl | exact Or.inr rfl) (se_mul (se_var (pv 2)) (se_var (pv 0)))))))
    (ss_one (ss_retV (pv 2)))))
abbrev st_number_of_subspaces : Stmt := top 23
theorem sc_number_of_subspaces : FnScope ["p", "n", "k"] ["p", "n", "k"] (defScope st_number_of_subspaces) := ⟨rfl, rfl, rfl, by decide +kernel, rfl, by decide +kernel, by decide +kernel⟩
theorem ok_number_of_subspaces {k : Nat} (hk : 1 ≤ k) {F_number_of_subspaces : Fn} {f : Addr} {fd : FuncData} (T : Txt P w K mg A_InvalidNumber A_InvalidRows A_InvalidSetting A_LONGEST) (Fu : L2.Fun K "number_of_subspaces" "number_of_subspaces" st_number_of_subspaces f fd) (h_power : DefOk P w K mg base "power" 1 2 F_power) (h_number_of_subspaces : DefOk P w K mg base "number_of_subspaces" k 3 F_number_of_subspaces) : FnOk P w K mg base (L2.CX P w) (k + 1) f fd ["p", "n", "k"] (spD K mg 3 (runF 3 3 (d_number_of_subspaces F_number_of_subspaces))) := by
  refine fn_ok (d := d_number_of_subspaces F_number_of_subspaces) Fu sc_number_of_subspaces rfl rfl fun cdv A outer s H E hr => ?_
  exact (ss_cons (ss_if (PW.pt (sw_or (st_c1 (c_eq hr) (se_var (pv 2)) se_int) (sw_or1 (st_c1 (c_eq hr) (se_var (pv 2)) (se_var (pv 1)))))) (ss_one (ss_ret se_int)) ss_nil)
    (ss_one (ss_ret (se_add (se_own lets h_number_of_subspaces hr (by omega) (by rfl) (sa_cons (se_var (pv 0)) (sa_cons (se_sub (se_var (pv 1)) se_int) (sa_cons (se_sub (se_var (pv 2)) se_int) sa_nil)))) (se_mul (se_own lets h_power hr (by omega) (by rfl) (sa_cons (se_var (pv 0)) (sa_cons (se_var (pv 2)) sa_nil))) (se_own lets h_number_of_subspaces hr (by omega) (by rfl) (sa_cons (se_var (pv 0)) (sa_cons (se_sub (se_var (pv 1)) se_int) (sa_cons (se_var (pv 2)) sa_nil)))))))))
abbrev st_count_subspaces : Stmt := top 24
theorem sc_count_subspaces : FnScope ["setting", "k", "p", "n"] ["setting", "k"] (defScope st_count_subspaces) := ⟨rfl, rfl, rfl, by decide +kernel, rfl, by decide +kernel, by decide +kernel⟩
theorem ok_count_subspaces {f : Addr} {fd : FuncData} (T : Txt P w K mg A_InvalidNumber A_InvalidRows A_InvalidSetting A_LONGEST) (Fu : L2.Fun K "count_subspaces" "count_subspaces" st_count_subspaces f fd) (h_check_setting : DefOk P w K mg base "check_setting" 3 1 F_check_setting) (h_check_number : DefOk P w K mg base "check_number" 2 2 F_check_number) (h_number_of_subspaces : DefOk P w K mg base "number_of_subspaces" 9 3 F_number_of_subspaces) : FnOk P w K mg base (L2.CX P w) 10 f fd ["setting", "k"] (spD K mg 2 F_count_subspaces) := by
  refine fn_ok (d := d_count_subspaces) Fu sc_count_subspaces rfl rfl fun cdv A outer s H E hr => ?_
  exact (ss_cons (ss_expr (se_own lets h_check_setting hr (by decide) (by rfl) (sa_cons (se_var (pv 0)) sa_nil)))
    (ss_cons (ss_asg (se_var (pv 0)) (pg_tup rfl (pgs_cons (pg_name (i := 2) sc_count_subspaces.nd rfl (by first | exact Or.inl rfl | exact Or.inr rfl)) (pgs_cons (pg_name (i := 3) sc_count_subspaces.nd rfl (by first | exact Or.inl rfl | exact Or.inr rfl)) pgs_nil))) (gd_tup (n := 2) (gds_cons gd_name (gds_cons gd_name gds_nil))))
    (ss_cons (ss_expr (se_own lets h_check_number hr (by decide) (by rfl) (sa_cons (se_var (pv 1)) (sa_cons (se_var (pv 3)) sa_nil))))
    (ss_one (ss_ret (se_own lets h_number_of_subspaces hr (by decide) (by rfl) (sa_cons (se_var (pv 2)) (sa_cons (se_var (pv 3)) (sa_cons (se_var (pv 1)) sa_nil)))))))))
abbrev st__law_cell_at : Stmt := top 26
theorem sc__law_cell_at : FnScope ["_law_script", "_law_k", "_law_spare", "_law_again"] ["_law_script", "_law_k"] (defScope st__law_cell_at) := ⟨rfl, rfl, rfl, by decide +kernel, rfl, by decide +kernel, by decide +kernel⟩
theorem ok__law_cell_at {f : Addr} {fd : FuncData} (T : Txt P w K mg A_InvalidNumber A_InvalidRows A_InvalidSetting A_LONGEST) (Fu : L2.Fun K "_law_cell_at" "_law_cell_at" st__law_cell_at f fd)  : FnOk P w K mg base (L2.CX P w) 1 f fd ["_law_script", "_law_k"] (spD K mg 2 F__law_cell_at) := by
  refine fn_ok (d := d__law_cell_at) Fu sc__law_cell_at rfl rfl fun cdv A outer s H E hr => ?_
  exact (ss_cons (ss_if (st_c1 c_lt (se_var (pv 1)) (se_bi b_len (by rfl) T.n_len (by decide +kernel) (sa_cons (se_var (pv 0)) sa_nil))) (ss_one (ss_ret (se_item (se_var (pv 0)) (se_var (pv 1)) (fun _ _ => rfl)))) ss_nil)
    (ss_cons (ss_if (st_c1 (c_eq hr) (se_var (pv 0)) (se_lst sa_nil)) (ss_one (ss_ret se_int)) ss_nil)
    (ss_cons (ss_set (ps_set (i := 2) sc__law_cell_at.nd rfl (by first | exact Or.inl rfl | exact Or.inr rfl) (se_item (se_var (pv 0)) (se_mod (se_var (pv 1)) (se_bi b_len (by rfl) T.n_len (by decide +kernel) (sa_cons (se_var (pv 0)) sa_nil))) (fun _ _ => rfl))))
    (ss_cons (ss_for goesOn rfl (si_range1 (by rfl) T.n_range (sa_cons (se_bi (b_min2 rfl) (by rfl) T.n_min (by decide +kernel) (sa_cons (se_fdiv (se_var (pv 1)) (se_bi b_len (by rfl) T.n_len (by decide +kernel) (sa_cons (se_var (pv 0)) sa_nil))) (sa_cons se_int sa_nil))) sa_nil)) (pg_name (i := 3) sc__law_cell_at.nd rfl (by first | exact Or.inl rfl | exact Or.inr rfl)) gd_name (ss_one (ss_set (ps_set (i := 2) sc__law_cell_at.nd rfl (by first | exact Or.inl rfl | exact Or.inr rfl) (se_fdiv (se_var (pv 2)) se_int)))))
    (ss_one (ss_ret (se_add (se_add (se_mul (se_item (se_var (pv 0)) (se_mod (se_var (pv 1)) (se_bi b_len (by rfl) T.n_len (by decide +kernel) (sa_cons (se_var (pv 0)) sa_nil))) (fun _ _ => rfl)) se_int) (se_var (pv 1))) (se_mul (se_var (pv 2)) se_int))))))))
abbrev st__law_mixed : Stmt := top 27
theorem sc__law_mixed : FnScope ["_law_script", "_law_k", "_law_many", "_law_spun"] ["_law_script", "_law_k", "_law_many"] (defScope st__law_mixed) := ⟨rfl, rfl, rfl, by decide +kernel, rfl, by decide +kernel, by decide +kernel⟩
theorem ok__law_mixed {f : Addr} {fd : FuncData} (T : Txt P w K mg A_InvalidNumber A_InvalidRows A_InvalidSetting A_LONGEST) (Fu : L2.Fun K "_law_mixed" "_law_mixed" st__law_mixed f fd) (h__law_cell_at : DefOk P w K mg base "_law_cell_at" 1 2 F__law_cell_at) : FnOk P w K mg base (L2.CX P w) 2 f fd ["_law_script", "_law_k", "_law_many"] (spD K mg 3 F__law_mixed) := by
  refine fn_ok (d := d__law_mixed) Fu sc__law_mixed rfl rfl fun cdv A outer s H E hr => ?_
  exact (ss_cons (ss_set (ps_set (i := 3) sc__law_mixed.nd rfl (by first | exact Or.inl rfl | exact Or.inr rfl) (se_mod (se_add (se_add (se_mul (se_own lets h__law_cell_at hr (by decide) (by rfl) (sa_cons (se_var (pv 0)) (sa_cons (se_var (pv 1)) sa_nil))) se_int) (se_mul se_int (se_var (pv 1)))) se_int) se_int)))
    (ss_one (ss_ret (se_mod (se_mod (se_mod (se_pow (se_var (pv 3)) se_int) se_int) se_int) (se_var (pv 2))))))
abbrev st__law_draw : Stmt := top 28
theorem sc__law_draw : FnScope ["_law_script", "_law_town", "_law_many"] ["_law_script", "_law_town", "_law_many"] (defScope st__law_draw) := ⟨rfl, rfl, rfl, by decide +kernel, rfl, by decide +kernel, by decide +kernel⟩
theorem ok__law_draw {f : Addr} {fd : FuncData} (T : Txt P w K mg A_InvalidNumber A_InvalidRows A_InvalidSetting A_LONGEST) (Fu : L2.Fun K "_law_draw" "_law_draw" st__law_draw f fd) (h__law_mixed : DefOk P w K mg base "_law_mixed" 2 3 F__law_mixed) : FnOk P w K mg base (L2.CX P w) 3 f fd ["_law_script", "_law_town", "_law_many"] (spD K mg 3 F__law_draw) := by
  refine fn_ok (d := d__law_draw) Fu sc__law_draw rfl rfl fun cdv A outer s H E hr => ?_
  exact (ss_cons (ss_mut md_app (ps_expr (pe_bm PySem.F.plainAttrs_list PySem.F.slot_list_append PySem.F.type_list_append mt_append (pv 1) (sa_cons se_int sa_nil))))
    (ss_one (ss_ret (se_own lets h__law_mixed hr (by decide) (by rfl) (sa_cons (se_var (pv 0)) (sa_cons (se_bi b_len (by rfl) T.n_len (by decide +kernel) (sa_cons (se_var (pv 1)) sa_nil)) (sa_cons (se_var (pv 2)) sa_nil)))))))
abbrev st__law_pick : Stmt := top 29
theorem sc__law_pick : FnScope ["_law_script", "_law_town", "_law_some"] ["_law_script", "_law_town", "_law_some"] (defScope st__law_pick) := ⟨rfl, rfl, rfl, by decide +kernel, rfl, by decide +kernel, by decide +kernel⟩
theorem ok__law_pick {f : Addr} {fd : FuncData} (T : Txt P w K mg A_InvalidNumber A_InvalidRows A_InvalidSetting A_LONGEST) (Fu : L2.Fun K "_law_pick" "_law_pick" st__law_pick f fd) (h__law_draw : DefOk P w K mg base "_law_draw" 3 3 F__law_draw) : FnOk P w K mg base (L2.CX P w) 4 f fd ["_law_script", "_law_town", "_law_some"] (spD K mg 3 F__law_pick) := by
  refine fn_ok (d := d__law_pick) Fu sc__law_pick rfl rfl fun cdv A outer s H E hr => ?_
  exact (ss_one (ss_ret (se_item (se_var (pv 2)) (se_own lets h__law_draw hr (by decide) (by rfl) (sa_cons (se_var (pv 0)) (sa_cons (se_var (pv 1)) (sa_cons (se_bi b_len (by rfl) T.n_len (by decide +kernel) (sa_cons (se_var (pv 2)) sa_nil)) sa_nil)))) (fun _ _ => rfl))))
abbrev st__law_every_row : Stmt := top 30
theorem sc__law_every_row : FnScope ["_law_own", "_law_made", "_law_again", "_law_longer", "_law_row", "_law_one"] ["_law_own"] (defScope st__law_every_row) := ⟨rfl, rfl, rfl, by decide +kernel, rfl, by decide +kernel, by decide +kernel⟩
theorem ok__law_every_row {f : Addr} {fd : FuncData} (T : Txt P w K mg A_InvalidNumber A_InvalidRows A_InvalidSetting A_LONGEST) (Fu : L2.Fun K "_law_every_row" "_law_every_row" st__law_every_row f fd)  : FnOk P w K mg base (L2.CX P w) 1 f fd ["_law_own"] (spD K mg 1 F__law_every_row) := by
  refine fn_ok (d := d__law_every_row) Fu sc__law_every_row rfl rfl fun cdv A outer s H E hr => ?_
  exact (ss_cons (ss_set (ps_set (i := 1) sc__law_every_row.nd rfl (by first | exact Or.inl rfl | exact Or.inr rfl) (se_lst (sa_cons (se_tup sa_nil) sa_nil))))
    (ss_cons (ss_for goesOn rfl (si_range1 (by rfl) T.n_range (sa_cons (se_item (se_var (pv 0)) se_int (fun _ _ => rfl)) sa_nil)) (pg_name (i := 2) sc__law_every_row.nd rfl (by first | exact Or.inl rfl | exact Or.inr rfl)) gd_name (ss_cons (ss_newL (ps_set (i := 3) sc__law_every_row.nd rfl (by first | exact Or.inl rfl | exact Or.inr rfl) (pe_lst sa_nil)))
    (ss_cons (ss_forV (i := 1) goesOn rfl (si_slot (pv 1)) (pg_name (i := 4) sc__law_every_row.nd rfl (by first | exact Or.inl rfl | exact Or.inr rfl)) gd_name (ss_one (ss_mut md_ext (ps_expr (pe_bm PySem.F.plainAttrs_list PySem.F.slot_list_extend PySem.F.type_list_extend mt_extend (pv 3) (sa_cons (se_comp rfl sc__law_every_row.nd (si_range1 (by rfl) T.n_range (sa_cons (se_item (se_var (pv 0)) se_int (fun _ _ => rfl)) sa_nil)) (blkOk_by (own := [("_law_one", 5)]) (N := ["_law_own", "_law_made", "_law_again", "_law_longer", "_law_row", "_law_one"]) (sc := defScope st__law_every_row) (by decide +kernel)) rfl (fun _ _ _ _ _ => (pg_name (i := 5) sc__law_every_row.nd rfl (by first | exact Or.inl rfl | exact Or.inr rfl))) (gc_name (by decide)) (fun _ _ _ _ _ => sts_nil) (fun _ _ _ _ _ => (se_add (se_var (pv 4)) (se_tup (sa_cons (se_var (pv 5)) sa_nil))))) sa_nil))))))
    (ss_one (ss_setV (ps_set (i := 1) sc__law_every_row.nd rfl (by first | exact Or.inl rfl | exact Or.inr rfl) (pv 3)))))))
    (ss_one (ss_retV (pv 1)))))
abbrev st__law_size_by : Stmt := top 31
theorem sc__law_size_by : FnScope ["_law_p", "_law_many", "_law_result", "_law_again"] ["_law_p", "_law_many"] (defScope st__law_size_by) := ⟨rfl, rfl, rfl, by decide +kernel, rfl, by decide +kernel, by decide +kernel⟩
theorem ok__law_size_by {f : Addr} {fd : FuncData} (T : Txt P w K mg A_InvalidNumber A_InvalidRows A_InvalidSetting A_LONGEST) (Fu : L2.Fun K "_law_size_by" "_law_size_by" st__law_size_by f fd)  : FnOk P w K mg base (L2.CX P w) 1 f fd ["_law_p", "_law_many"] (spD K mg 2 F__law_size_by) := by
  refine fn_ok (d := d__law_size_by) Fu sc__law_size_by rfl rfl fun cdv A outer s H E hr => ?_
  exact (ss_cons (ss_set (ps_set (i := 2) sc__law_size_by.nd rfl (by first | exact Or.inl rfl | exact Or.inr rfl) se_int))
    (ss_cons (ss_for goesOn rfl (si_range1 (by rfl) T.n_range (sa_cons (se_var (pv 1)) sa_nil)) (pg_name (i := 3) sc__law_size_by.nd rfl (by first | exact Or.inl rfl | exact Or.inr rfl)) gd_name (ss_one (ss_set (ps_set (i := 2) sc__law_size_by.nd rfl (by first | exact Or.inl rfl | exact Or.inr rfl) (se_mul (se_var (pv 2)) (se_var (pv 0)))))))
    (ss_one (ss_retV (pv 2)))))
abbrev st_law : Stmt := top 32
theorem sc_law : FnScope ["_law_script", "_law_town", "_law_own", "_law_k", "_law_lists", "_law_again", "_law_counts", "_law_rows", "_law_at", "_law_p", "_law_n", "_law_longer", "_law_space", "_law_total", "_law_each", "_law_row"] ["_law_script"] (defScope st_law) := ⟨rfl, rfl, rfl, by decide +kernel, rfl, by decide +kernel, by decide +kernel⟩
theorem ok_law {f : Addr} {fd : FuncData} (T : Txt P w K mg A_InvalidNumber A_InvalidRows A_InvalidSetting A_LONGEST) (Fu : L2.Fun K "law" "law" st_law f fd) (h__law_pick : DefOk P w K mg base "_law_pick" 4 3 F__law_pick) (h__law_draw : DefOk P w K mg base "_law_draw" 3 3 F__law_draw) (h__law_every_row : DefOk P w K mg base "_law_every_row" 1 1 F__law_every_row) (h_span : DefOk P w K mg base "span" 5 2 F_span) (h__law_size_by : DefOk P w K mg base "_law_size_by" 1 2 F__law_size_by) (h_count_subspaces : DefOk P w K mg base "count_subspaces" 10 2 F_count_subspaces) : FnOk P w K mg base (L2.CX P w) 11 f fd ["_law_script"] (spD K mg 1 (F_law (SN.NBX P w))) := by
  refine fn_ok (d := d_law (SN.NBX P w)) Fu sc_law rfl rfl fun cdv A outer s H E hr => ?_
  exact (ss_cons (ss_newC (ps_set (i := 1) sc_law.nd rfl (by first | exact Or.inl rfl | exact Or.inr rfl) (pe_lst sa_nil)))
    (ss_cons (ss_set (ps_set (i := 2) sc_law.nd rfl (by first | exact Or.inl rfl | exact Or.inr rfl) (se_own lets h__law_pick hr (by decide) (by rfl) (sa_cons (se_var (pv 0)) (sa_cons (se_var (pv 1)) (sa_cons (se_lst (sa_cons (se_tup (sa_cons se_int (sa_cons se_int sa_nil))) (sa_cons (se_tup (sa_cons se_int (sa_cons se_int sa_nil))) (sa_cons (se_tup (sa_cons se_int (sa_cons se_int sa_nil))) (sa_cons (se_tup (sa_cons se_int (sa_cons se_int sa_nil))) (sa_cons (se_tup (sa_cons se_int (sa_cons se_int sa_nil))) (sa_cons (se_tup (sa_cons se_int (sa_cons se_int sa_nil))) sa_nil))))))) sa_nil))))))
    (ss_cons (ss_asg (se_var (pv 2)) (pg_tup rfl (pgs_cons (pg_name (i := 9) sc_law.nd rfl (by first | exact Or.inl rfl | exact Or.inr rfl)) (pgs_cons (pg_name (i := 10) sc_law.nd rfl (by first | exact Or.inl rfl | exact Or.inr rfl)) pgs_nil))) (gd_tup (n := 2) (gds_cons gd_name (gds_cons gd_name gds_nil))))
    (ss_cons (ss_set (ps_set (i := 3) sc_law.nd rfl (by first | exact Or.inl rfl | exact Or.inr rfl) (se_add se_int (se_own lets h__law_draw hr (by decide) (by rfl) (sa_cons (se_var (pv 0)) (sa_cons (se_var (pv 1)) (sa_cons (se_bi (b_min2 rfl) (by rfl) T.n_min (by decide +kernel) (sa_cons (se_var (pv 10)) (sa_cons se_int sa_nil))) sa_nil)))))))
    (ss_cons (ss_set (ps_set (i := 4) sc_law.nd rfl (by first | exact Or.inl rfl | exact Or.inr rfl) (se_lst (sa_cons (se_lst sa_nil) sa_nil))))
    (ss_cons (ss_for goesOn rfl (si_range1 (by rfl) T.n_range (sa_cons (se_var (pv 3)) sa_nil)) (pg_name (i := 5) sc_law.nd rfl (by first | exact Or.inl rfl | exact Or.inr rfl)) gd_name (ss_cons (ss_newL (ps_set (i := 11) sc_law.nd rfl (by first | exact Or.inl rfl | exact Or.inr rfl) (pe_lst sa_nil)))
    (ss_cons (ss_forV (i := 4) goesOn rfl (si_slot (pv 4)) (pg_name (i := 7) sc_law.nd rfl (by first | exact Or.inl rfl | exact Or.inr rfl)) gd_name (ss_one (ss_mut md_ext (ps_expr (pe_bm PySem.F.plainAttrs_list PySem.F.slot_list_extend PySem.F.type_list_extend mt_extend (pv 11) (sa_cons (se_comp rfl sc_law.nd (si_seq (se_own lets h__law_every_row hr (by decide) (by rfl) (sa_cons (se_var (pv 2)) sa_nil))) (blkOk_by (own := [("_law_row", 15)]) (N := ["_law_script", "_law_town", "_law_own", "_law_k", "_law_lists", "_law_again", "_law_counts", "_law_rows", "_law_at", "_law_p", "_law_n", "_law_longer", "_law_space", "_law_total", "_law_each", "_law_row"]) (sc := defScope st_law) (by decide +kernel)) rfl (fun _ _ _ _ _ => (pg_name (i := 15) sc_law.nd rfl (by first | exact Or.inl rfl | exact Or.inr rfl))) (gc_name (by decide)) (fun _ _ _ _ _ => sts_nil) (fun _ _ _ _ _ => (se_add (se_var (pv 7)) (se_lst (sa_cons (se_var (pv 15)) sa_nil))))) sa_nil))))))
    (ss_one (ss_setV (ps_set (i := 4) sc_law.nd rfl (by first | exact Or.inl rfl | exact Or.inr rfl) (pv 11)))))))
    (ss_cons (SN.ss_newX (ps_set (i := 6) sc_law.nd rfl (by first | exact Or.inl rfl | exact Or.inr rfl) SN.pe_nnew))
    (ss_cons (ss_forV (i := 4) goesOn rfl (si_slot (pv 4)) (pg_name (i := 7) sc_law.nd rfl (by first | exact Or.inl rfl | exact Or.inr rfl)) gd_name (ss_cons (ss_set (ps_set (i := 12) sc_law.nd rfl (by first | exact Or.inl rfl | exact Or.inr rfl) (se_own lets h_span hr (by decide) (by rfl) (sa_cons (se_var (pv 2)) (sa_cons (se_var (pv 7)) sa_nil)))))
    (ss_one (ss_if (st_c1 (c_eq hr) (se_bi b_len (by rfl) T.n_len (by decide +kernel) (sa_cons (se_var (pv 12)) sa_nil)) (se_var (pv 3))) (ss_one (SN.ss_putX hr (se_add (SN.se_get2X hr (pv 6) (se_var (pv 12)) se_int ⟨by rfl, by rfl, by rfl, by rfl⟩) se_int) (pv 6) (se_var (pv 12)))) ss_nil))))
    (ss_cons (ss_asg (se_tup (sa_cons se_int (sa_cons se_int sa_nil))) (pg_tup rfl (pgs_cons (pg_name (i := 13) sc_law.nd rfl (by first | exact Or.inl rfl | exact Or.inr rfl)) (pgs_cons (pg_name (i := 14) sc_law.nd rfl (by first | exact Or.inl rfl | exact Or.inr rfl)) pgs_nil))) (gd_tup (n := 2) (gds_cons gd_name (gds_cons gd_name gds_nil))))
    (ss_cons (ss_for goesOn rfl (si_range1 (by rfl) T.n_range (sa_cons (se_var (pv 3)) sa_nil)) (pg_name (i := 8) sc_law.nd rfl (by first | exact Or.inl rfl | exact Or.inr rfl)) gd_name (ss_cons (ss_set (ps_set (i := 13) sc_law.nd rfl (by first | exact Or.inl rfl | exact Or.inr rfl) (se_mul (se_var (pv 13)) (se_sub (se_own lets h__law_size_by hr (by decide) (by rfl) (sa_cons (se_var (pv 9)) (sa_cons (se_var (pv 10)) sa_nil))) (se_own lets h__law_size_by hr (by decide) (by rfl) (sa_cons (se_var (pv 9)) (sa_cons (se_var (pv 8)) sa_nil)))))))
    (ss_one (ss_set (ps_set (i := 14) sc_law.nd rfl (by first | exact Or.inl rfl | exact Or.inr rfl) (se_mul (se_var (pv 14)) (se_sub (se_own lets h__law_size_by hr (by decide) (by rfl) (sa_cons (se_var (pv 9)) (sa_cons (se_var (pv 3)) sa_nil))) (se_own lets h__law_size_by hr (by decide) (by rfl) (sa_cons (se_var (pv 9)) (sa_cons (se_var (pv 8)) sa_nil))))))))))
    (ss_cons (SN.ss_lockX (i := 6) (ss_if (PW.pt (sw_or (st_c1 (c_ne hr) (se_bi (b_sum rfl) (by rfl) T.n_sum (by decide +kernel) (sa_cons (se_comp rfl sc_law.nd (SN.si_keysX (pv 6)) (blkOk_by (own := [("_law_space", 12)]) (N := ["_law_script", "_law_town", "_law_own", "_law_k", "_law_lists", "_law_again", "_law_counts", "_law_rows", "_law_at", "_law_p", "_law_n", "_law_longer", "_law_space", "_law_total", "_law_each", "_law_row"]) (sc := defScope st_law) (by decide +kernel)) rfl (fun _ _ _ _ _ => (pg_name (i := 12) sc_law.nd rfl (by first | exact Or.inl rfl | exact Or.inr rfl))) (gc_name (by decide)) (fun _ _ _ _ _ => sts_nil) (fun _ _ _ _ _ => (SN.se_getX hr (pv 6) (se_var (pv 12)) (fun _ _ => rfl)))) sa_nil)) (se_var (pv 13))) (sw_or1 (st_c1 (c_ne hr) (se_comp rfl sc_law.nd (SN.si_keysX (pv 6)) (blkOk_by (own := [("_law_space", 12)]) (N := ["_law_script", "_law_town", "_law_own", "_law_k", "_law_lists", "_law_again", "_law_counts", "_law_rows", "_law_at", "_law_p", "_law_n", "_law_longer", "_law_space", "_law_total", "_law_each", "_law_row"]) (sc := defScope st_law) (by decide +kernel)) rfl (fun _ _ _ _ _ => (pg_name (i := 12) sc_law.nd rfl (by first | exact Or.inl rfl | exact Or.inr rfl))) (gc_name (by decide)) (fun _ _ _ _ _ => (sts_one (st_c1 (c_ne hr) (SN.se_getX hr (pv 6) (se_var (pv 12)) (fun _ _ => rfl)) (se_var (pv 14))))) (fun _ _ _ _ _ => se_int)) (se_lst sa_nil))))) (ss_one (ss_ret se_bl)) ss_nil))
    (ss_one (ss_ret (se_and (se_c1 (c_eq hr) (SN.se_lenX (by rfl) T.n_len (pv 6)) (se_own lets h_count_subspaces hr (by decide) (by rfl) (sa_cons (se_var (pv 2)) (sa_cons (se_var (pv 3)) sa_nil)))) (se_one (se_c1 (c_eq hr) (se_mul (se_own lets h_count_subspaces hr (by decide) (by rfl) (sa_cons (se_var (pv 2)) (sa_cons (se_var (pv 3)) sa_nil))) (se_var (pv 14))) (se_var (pv 13))))))))))))))))))
end
theorem all_mk {P : Program} {w : World} {K : PySem.W.Frag} {h : Heap} {mg : Str → Option Value} {fa : Addr} (X : K.In h) (G : h.Ns mainGlobals mg) (hfa : mg "law" = some (.ref fa))
    {f0 : Addr} {od0 an0 : Option Addr} {sl0 : Array (Option Value)} {oc0 kV0 dc0 pm0 cd0 ct0 : Value} (a0 : PySem.W.nsIn K mainGlobals "is_number" = some (some (.ref f0))) (l0 : K.lookup f0 = some ⟨oc0, od0, .func (PySem.W.fnOf "is_number" "is_number" (defArgs st_is_number) (defBody st_is_number) (defScope st_is_number) .none kV0 dc0 pm0 an0 cd0 ct0), sl0⟩) (c0 : PySem.W.codeIn K cd0 "is_number" = true) (k0 : PySem.W.keepIn K (.ref f0) = true)
    {f1 : Addr} {od1 an1 : Option Addr} {sl1 : Array (Option Value)} {oc1 kV1 dc1 pm1 cd1 ct1 : Value} (a1 : PySem.W.nsIn K mainGlobals "check_number" = some (some (.ref f1))) (l1 : K.lookup f1 = some ⟨oc1, od1, .func (PySem.W.fnOf "check_number" "check_number" (defArgs st_check_number) (defBody st_check_number) (defScope st_check_number) .none kV1 dc1 pm1 an1 cd1 ct1), sl1⟩) (c1 : PySem.W.codeIn K cd1 "check_number" = true) (k1 : PySem.W.keepIn K (.ref f1) = true)
    {f2 : Addr} {od2 an2 : Option Addr} {sl2 : Array (Option Value)} {oc2 kV2 dc2 pm2 cd2 ct2 : Value} (a2 : PySem.W.nsIn K mainGlobals "is_setting" = some (some (.ref f2))) (l2 : K.lookup f2 = some ⟨oc2, od2, .func (PySem.W.fnOf "is_setting" "is_setting" (defArgs st_is_setting) (defBody st_is_setting) (defScope st_is_setting) .none kV2 dc2 pm2 an2 cd2 ct2), sl2⟩) (c2 : PySem.W.codeIn K cd2 "is_setting" = true) (k2 : PySem.W.keepIn K (.ref f2) = true)
    {f3 : Addr} {od3 an3 : Option Addr} {sl3 : Array (Option Value)} {oc3 kV3 dc3 pm3 cd3 ct3 : Value} (a3 : PySem.W.nsIn K mainGlobals "check_setting" = some (some (.ref f3))) (l3 : K.lookup f3 = some ⟨oc3, od3, .func (PySem.W.fnOf "check_setting" "check_setting" (defArgs st_check_setting) (defBody st_check_setting) (defScope st_check_setting) .none kV3 dc3 pm3 an3 cd3 ct3), sl3⟩) (c3 : PySem.W.codeIn K cd3 "check_setting" = true) (k3 : PySem.W.keepIn K (.ref f3) = true)
    {f4 : Addr} {od4 an4 : Option Addr} {sl4 : Array (Option Value)} {oc4 kV4 dc4 pm4 cd4 ct4 : Value} (a4 : PySem.W.nsIn K mainGlobals "is_row" = some (some (.ref f4))) (l4 : K.lookup f4 = some ⟨oc4, od4, .func (PySem.W.fnOf "is_row" "is_row" (defArgs st_is_row) (defBody st_is_row) (defScope st_is_row) .none kV4 dc4 pm4 an4 cd4 ct4), sl4⟩) (c4 : PySem.W.codeIn K cd4 "is_row" = true) (k4 : PySem.W.keepIn K (.ref f4) = true)
    {f5 : Addr} {od5 an5 : Option Addr} {sl5 : Array (Option Value)} {oc5 kV5 dc5 pm5 cd5 ct5 : Value} (a5 : PySem.W.nsIn K mainGlobals "add_multiple" = some (some (.ref f5))) (l5 : K.lookup f5 = some ⟨oc5, od5, .func (PySem.W.fnOf "add_multiple" "add_multiple" (defArgs st_add_multiple) (defBody st_add_multiple) (defScope st_add_multiple) .none kV5 dc5 pm5 an5 cd5 ct5), sl5⟩) (c5 : PySem.W.codeIn K cd5 "add_multiple" = true) (k5 : PySem.W.keepIn K (.ref f5) = true)
    {f6 : Addr} {od6 an6 : Option Addr} {sl6 : Array (Option Value)} {oc6 kV6 dc6 pm6 cd6 ct6 : Value} (a6 : PySem.W.nsIn K mainGlobals "leading_place" = some (some (.ref f6))) (l6 : K.lookup f6 = some ⟨oc6, od6, .func (PySem.W.fnOf "leading_place" "leading_place" (defArgs st_leading_place) (defBody st_leading_place) (defScope st_leading_place) .none kV6 dc6 pm6 an6 cd6 ct6), sl6⟩) (c6 : PySem.W.codeIn K cd6 "leading_place" = true) (k6 : PySem.W.keepIn K (.ref f6) = true)
    {f7 : Addr} {od7 an7 : Option Addr} {sl7 : Array (Option Value)} {oc7 kV7 dc7 pm7 cd7 ct7 : Value} (a7 : PySem.W.nsIn K mainGlobals "with_leading_one" = some (some (.ref f7))) (l7 : K.lookup f7 = some ⟨oc7, od7, .func (PySem.W.fnOf "with_leading_one" "with_leading_one" (defArgs st_with_leading_one) (defBody st_with_leading_one) (defScope st_with_leading_one) .none kV7 dc7 pm7 an7 cd7 ct7), sl7⟩) (c7 : PySem.W.codeIn K cd7 "with_leading_one" = true) (k7 : PySem.W.keepIn K (.ref f7) = true)
    {f8 : Addr} {od8 an8 : Option Addr} {sl8 : Array (Option Value)} {oc8 kV8 dc8 pm8 cd8 ct8 : Value} (a8 : PySem.W.nsIn K mainGlobals "cleared" = some (some (.ref f8))) (l8 : K.lookup f8 = some ⟨oc8, od8, .func (PySem.W.fnOf "cleared" "cleared" (defArgs st_cleared) (defBody st_cleared) (defScope st_cleared) .none kV8 dc8 pm8 an8 cd8 ct8), sl8⟩) (c8 : PySem.W.codeIn K cd8 "cleared" = true) (k8 : PySem.W.keepIn K (.ref f8) = true)
    {f9 : Addr} {od9 an9 : Option Addr} {sl9 : Array (Option Value)} {oc9 kV9 dc9 pm9 cd9 ct9 : Value} (a9 : PySem.W.nsIn K mainGlobals "remainder" = some (some (.ref f9))) (l9 : K.lookup f9 = some ⟨oc9, od9, .func (PySem.W.fnOf "remainder" "remainder" (defArgs st_remainder) (defBody st_remainder) (defScope st_remainder) .none kV9 dc9 pm9 an9 cd9 ct9), sl9⟩) (c9 : PySem.W.codeIn K cd9 "remainder" = true) (k9 : PySem.W.keepIn K (.ref f9) = true)
    {f10 : Addr} {od10 an10 : Option Addr} {sl10 : Array (Option Value)} {oc10 kV10 dc10 pm10 cd10 ct10 : Value} (a10 : PySem.W.nsIn K mainGlobals "reduced_rows" = some (some (.ref f10))) (l10 : K.lookup f10 = some ⟨oc10, od10, .func (PySem.W.fnOf "reduced_rows" "reduced_rows" (defArgs st_reduced_rows) (defBody st_reduced_rows) (defScope st_reduced_rows) .none kV10 dc10 pm10 an10 cd10 ct10), sl10⟩) (c10 : PySem.W.codeIn K cd10 "reduced_rows" = true) (k10 : PySem.W.keepIn K (.ref f10) = true)
    {f11 : Addr} {od11 an11 : Option Addr} {sl11 : Array (Option Value)} {oc11 kV11 dc11 pm11 cd11 ct11 : Value} (a11 : PySem.W.nsIn K mainGlobals "span" = some (some (.ref f11))) (l11 : K.lookup f11 = some ⟨oc11, od11, .func (PySem.W.fnOf "span" "span" (defArgs st_span) (defBody st_span) (defScope st_span) .none kV11 dc11 pm11 an11 cd11 ct11), sl11⟩) (c11 : PySem.W.codeIn K cd11 "span" = true) (k11 : PySem.W.keepIn K (.ref f11) = true)
    {f12 : Addr} {od12 an12 : Option Addr} {sl12 : Array (Option Value)} {oc12 kV12 dc12 pm12 cd12 ct12 : Value} (a12 : PySem.W.nsIn K mainGlobals "power" = some (some (.ref f12))) (l12 : K.lookup f12 = some ⟨oc12, od12, .func (PySem.W.fnOf "power" "power" (defArgs st_power) (defBody st_power) (defScope st_power) .none kV12 dc12 pm12 an12 cd12 ct12), sl12⟩) (c12 : PySem.W.codeIn K cd12 "power" = true) (k12 : PySem.W.keepIn K (.ref f12) = true)
    {f13 : Addr} {od13 an13 : Option Addr} {sl13 : Array (Option Value)} {oc13 kV13 dc13 pm13 cd13 ct13 : Value} (a13 : PySem.W.nsIn K mainGlobals "number_of_subspaces" = some (some (.ref f13))) (l13 : K.lookup f13 = some ⟨oc13, od13, .func (PySem.W.fnOf "number_of_subspaces" "number_of_subspaces" (defArgs st_number_of_subspaces) (defBody st_number_of_subspaces) (defScope st_number_of_subspaces) .none kV13 dc13 pm13 an13 cd13 ct13), sl13⟩) (c13 : PySem.W.codeIn K cd13 "number_of_subspaces" = true) (k13 : PySem.W.keepIn K (.ref f13) = true)
    {f14 : Addr} {od14 an14 : Option Addr} {sl14 : Array (Option Value)} {oc14 kV14 dc14 pm14 cd14 ct14 : Value} (a14 : PySem.W.nsIn K mainGlobals "count_subspaces" = some (some (.ref f14))) (l14 : K.lookup f14 = some ⟨oc14, od14, .func (PySem.W.fnOf "count_subspaces" "count_subspaces" (defArgs st_count_subspaces) (defBody st_count_subspaces) (defScope st_count_subspaces) .none kV14 dc14 pm14 an14 cd14 ct14), sl14⟩) (c14 : PySem.W.codeIn K cd14 "count_subspaces" = true) (k14 : PySem.W.keepIn K (.ref f14) = true)
    {f15 : Addr} {od15 an15 : Option Addr} {sl15 : Array (Option Value)} {oc15 kV15 dc15 pm15 cd15 ct15 : Value} (a15 : PySem.W.nsIn K mainGlobals "_law_cell_at" = some (some (.ref f15))) (l15 : K.lookup f15 = some ⟨oc15, od15, .func (PySem.W.fnOf "_law_cell_at" "_law_cell_at" (defArgs st__law_cell_at) (defBody st__law_cell_at) (defScope st__law_cell_at) .none kV15 dc15 pm15 an15 cd15 ct15), sl15⟩) (c15 : PySem.W.codeIn K cd15 "_law_cell_at" = true) (k15 : PySem.W.keepIn K (.ref f15) = true)
    {f16 : Addr} {od16 an16 : Option Addr} {sl16 : Array (Option Value)} {oc16 kV16 dc16 pm16 cd16 ct16 : Value} (a16 : PySem.W.nsIn K mainGlobals "_law_mixed" = some (some (.ref f16))) (l16 : K.lookup f16 = some ⟨oc16, od16, .func (PySem.W.fnOf "_law_mixed" "_law_mixed" (defArgs st__law_mixed) (defBody st__law_mixed) (defScope st__law_mixed) .none kV16 dc16 pm16 an16 cd16 ct16), sl16⟩) (c16 : PySem.W.codeIn K cd16 "_law_mixed" = true) (k16 : PySem.W.keepIn K (.ref f16) = true)
    {f17 : Addr} {od17 an17 : Option Addr} {sl17 : Array (Option Value)} {oc17 kV17 dc17 pm17 cd17 ct17 : Value} (a17 : PySem.W.nsIn K mainGlobals "_law_draw" = some (some (.ref f17))) (l17 : K.lookup f17 = some ⟨oc17, od17, .func (PySem.W.fnOf "_law_draw" "_law_draw" (defArgs st__law_draw) (defBody st__law_draw) (defScope st__law_draw) .none kV17 dc17 pm17 an17 cd17 ct17), sl17⟩) (c17 : PySem.W.codeIn K cd17 "_law_draw" = true) (k17 : PySem.W.keepIn K (.ref f17) = true)
    {f18 : Addr} {od18 an18 : Option Addr} {sl18 : Array (Option Value)} {oc18 kV18 dc18 pm18 cd18 ct18 : Value} (a18 : PySem.W.nsIn K mainGlobals "_law_pick" = some (some (.ref f18))) (l18 : K.lookup f18 = some ⟨oc18, od18, .func (PySem.W.fnOf "_law_pick" "_law_pick" (defArgs st__law_pick) (defBody st__law_pick) (defScope st__law_pick) .none kV18 dc18 pm18 an18 cd18 ct18), sl18⟩) (c18 : PySem.W.codeIn K cd18 "_law_pick" = true) (k18 : PySem.W.keepIn K (.ref f18) = true)
    {f19 : Addr} {od19 an19 : Option Addr} {sl19 : Array (Option Value)} {oc19 kV19 dc19 pm19 cd19 ct19 : Value} (a19 : PySem.W.nsIn K mainGlobals "_law_every_row" = some (some (.ref f19))) (l19 : K.lookup f19 = some ⟨oc19, od19, .func (PySem.W.fnOf "_law_every_row" "_law_every_row" (defArgs st__law_every_row) (defBody st__law_every_row) (defScope st__law_every_row) .none kV19 dc19 pm19 an19 cd19 ct19), sl19⟩) (c19 : PySem.W.codeIn K cd19 "_law_every_row" = true) (k19 : PySem.W.keepIn K (.ref f19) = true)
    {f20 : Addr} {od20 an20 : Option Addr} {sl20 : Array (Option Value)} {oc20 kV20 dc20 pm20 cd20 ct20 : Value} (a20 : PySem.W.nsIn K mainGlobals "_law_size_by" = some (some (.ref f20))) (l20 : K.lookup f20 = some ⟨oc20, od20, .func (PySem.W.fnOf "_law_size_by" "_law_size_by" (defArgs st__law_size_by) (defBody st__law_size_by) (defScope st__law_size_by) .none kV20 dc20 pm20 an20 cd20 ct20), sl20⟩) (c20 : PySem.W.codeIn K cd20 "_law_size_by" = true) (k20 : PySem.W.keepIn K (.ref f20) = true)
    {f21 : Addr} {od21 an21 : Option Addr} {sl21 : Array (Option Value)} {oc21 kV21 dc21 pm21 cd21 ct21 : Value} (a21 : PySem.W.nsIn K mainGlobals "law" = some (some (.ref f21))) (l21 : K.lookup f21 = some ⟨oc21, od21, .func (PySem.W.fnOf "law" "law" (defArgs st_law) (defBody st_law) (defScope st_law) .none kV21 dc21 pm21 an21 cd21 ct21), sl21⟩) (c21 : PySem.W.codeIn K cd21 "law" = true) (k21 : PySem.W.keepIn K (.ref f21) = true)
    {A_InvalidNumber : Addr} (n_InvalidNumber : PySem.W.nsIn K mainGlobals "InvalidNumber" = some (some (.ref A_InvalidNumber))) (x_InvalidNumber : PySem.W.excIn K A_InvalidNumber [.type "ValueError", .type "Exception", .type "BaseException", .type "object"] "ValueError.__new__" = true) (kc_InvalidNumber : PySem.W.keepIn K (.ref A_InvalidNumber) = true) (b_InvalidNumber : PySem.W.subIn K (.ref A_InvalidNumber) (.type "BaseException") = some true) (t_InvalidNumber : PySem.W.typeIn K (.ref A_InvalidNumber) = some (.type "type"))
    {A_InvalidRows : Addr} (n_InvalidRows : PySem.W.nsIn K mainGlobals "InvalidRows" = some (some (.ref A_InvalidRows))) (x_InvalidRows : PySem.W.excIn K A_InvalidRows [.type "ValueError", .type "Exception", .type "BaseException", .type "object"] "ValueError.__new__" = true) (kc_InvalidRows : PySem.W.keepIn K (.ref A_InvalidRows) = true) (b_InvalidRows : PySem.W.subIn K (.ref A_InvalidRows) (.type "BaseException") = some true) (t_InvalidRows : PySem.W.typeIn K (.ref A_InvalidRows) = some (.type "type"))
    {A_InvalidSetting : Addr} (n_InvalidSetting : PySem.W.nsIn K mainGlobals "InvalidSetting" = some (some (.ref A_InvalidSetting))) (x_InvalidSetting : PySem.W.excIn K A_InvalidSetting [.type "ValueError", .type "Exception", .type "BaseException", .type "object"] "ValueError.__new__" = true) (kc_InvalidSetting : PySem.W.keepIn K (.ref A_InvalidSetting) = true) (b_InvalidSetting : PySem.W.subIn K (.ref A_InvalidSetting) (.type "BaseException") = some true) (t_InvalidSetting : PySem.W.typeIn K (.ref A_InvalidSetting) = some (.type "type"))
    {A_LONGEST : Addr} {es_LONGEST : Array DictEntry} {en_LONGEST : Nat} (n_LONGEST : PySem.W.nsIn K mainGlobals "LONGEST" = some (some (.ref A_LONGEST))) (kl_LONGEST : K.lookup A_LONGEST = some ⟨.type "dict", none, .dict es_LONGEST en_LONGEST, #[]⟩) (ki_LONGEST : intLit es_LONGEST.toList kv_LONGEST = true) (ks_LONGEST : (A_LONGEST == sysModules) = false)
    {t_MOST_ROWS : Tok} (n_MOST_ROWS : PySem.W.nsIn K mainGlobals "MOST_ROWS" = some (some (.int 12 t_MOST_ROWS)))
    (n_all : PySem.W.nsIn K mainGlobals "all" = some none)
    (n_bool : PySem.W.nsIn K mainGlobals "bool" = some none)
    (n_enumerate : PySem.W.nsIn K mainGlobals "enumerate" = some none)
    (n_int : PySem.W.nsIn K mainGlobals "int" = some none)
    (n_isinstance : PySem.W.nsIn K mainGlobals "isinstance" = some none)
    (n_len : PySem.W.nsIn K mainGlobals "len" = some none)
    (n_list : PySem.W.nsIn K mainGlobals "list" = some none)
    (n_min : PySem.W.nsIn K mainGlobals "min" = some none)
    (n_range : PySem.W.nsIn K mainGlobals "range" = some none)
    (n_sorted : PySem.W.nsIn K mainGlobals "sorted" = some none)
    (n_sum : PySem.W.nsIn K mainGlobals "sum" = some none)
    (n_tuple : PySem.W.nsIn K mainGlobals "tuple" = some none)
    (n_zip : PySem.W.nsIn K mainGlobals "zip" = some none)
    : ∃ fd : FuncData, (∀ (s : Shared) (v : Value), BindsTo s fd ⟨[v], []⟩ [("_law_script", v)]) ∧ ∀ base : Heap, K.In base → base.Ns mainGlobals mg → FnOk P w K mg base (L2.CX P w) 11 fa fd ["_law_script"] (spD K mg 1 (F_law (SN.NBX P w))) := by
  have e := hfa.symm.trans (PySem.W.mg_of X G a21)
  cases e
  have T : Txt P w K mg A_InvalidNumber A_InvalidRows A_InvalidSetting A_LONGEST := ⟨PySem.W.mg_of X G n_InvalidNumber, x_InvalidNumber, kc_InvalidNumber, b_InvalidNumber, t_InvalidNumber, PySem.W.mg_of X G n_InvalidRows, x_InvalidRows, kc_InvalidRows, b_InvalidRows, t_InvalidRows, PySem.W.mg_of X G n_InvalidSetting, x_InvalidSetting, kc_InvalidSetting, b_InvalidSetting, t_InvalidSetting, PySem.W.mg_of X G n_LONGEST, ⟨⟨es_LONGEST, en_LONGEST, kl_LONGEST, ki_LONGEST⟩, ks_LONGEST⟩, ⟨_, PySem.W.mg_of X G n_MOST_ROWS⟩, PySem.W.mg_none_of X G n_all, PySem.W.mg_none_of X G n_bool, PySem.W.mg_none_of X G n_enumerate, PySem.W.mg_none_of X G n_int, PySem.W.mg_none_of X G n_isinstance, PySem.W.mg_none_of X G n_len, PySem.W.mg_none_of X G n_list, PySem.W.mg_none_of X G n_min, PySem.W.mg_none_of X G n_range, PySem.W.mg_none_of X G n_sorted, PySem.W.mg_none_of X G n_sum, PySem.W.mg_none_of X G n_tuple, PySem.W.mg_none_of X G n_zip⟩
  have F0 := fun_mk (st := st_is_number) l0 c0 k0
  have b0 := F0.binds (ps := ["value", "low", "high"]) fun _ _ _ _ _ _ us hl => match us, hl with | [_, _, _], _ => rfl
  have F1 := fun_mk (st := st_check_number) l1 c1 k1
  have b1 := F1.binds (ps := ["value", "greatest"]) fun _ _ _ _ _ _ us hl => match us, hl with | [_, _], _ => rfl
  have F2 := fun_mk (st := st_is_setting) l2 c2 k2
  have b2 := F2.binds (ps := ["value"]) fun _ _ _ _ _ _ us hl => match us, hl with | [_], _ => rfl
  have F3 := fun_mk (st := st_check_setting) l3 c3 k3
  have b3 := F3.binds (ps := ["setting"]) fun _ _ _ _ _ _ us hl => match us, hl with | [_], _ => rfl
  have F4 := fun_mk (st := st_is_row) l4 c4 k4
  have b4 := F4.binds (ps := ["setting", "value"]) fun _ _ _ _ _ _ us hl => match us, hl with | [_, _], _ => rfl
  have F5 := fun_mk (st := st_add_multiple) l5 c5 k5
  have b5 := F5.binds (ps := ["p", "one", "factor", "other"]) fun _ _ _ _ _ _ us hl => match us, hl with | [_, _, _, _], _ => rfl
  have F6 := fun_mk (st := st_leading_place) l6 c6 k6
  have b6 := F6.binds (ps := ["row"]) fun _ _ _ _ _ _ us hl => match us, hl with | [_], _ => rfl
  have F7 := fun_mk (st := st_with_leading_one) l7 c7 k7
  have b7 := F7.binds (ps := ["p", "row"]) fun _ _ _ _ _ _ us hl => match us, hl with | [_, _], _ => rfl
  have F8 := fun_mk (st := st_cleared) l8 c8 k8
  have b8 := F8.binds (ps := ["p", "row", "base"]) fun _ _ _ _ _ _ us hl => match us, hl with | [_, _, _], _ => rfl
  have F9 := fun_mk (st := st_remainder) l9 c9 k9
  have b9 := F9.binds (ps := ["p", "reduced", "row"]) fun _ _ _ _ _ _ us hl => match us, hl with | [_, _, _], _ => rfl
  have F10 := fun_mk (st := st_reduced_rows) l10 c10 k10
  have b10 := F10.binds (ps := ["p", "rows"]) fun _ _ _ _ _ _ us hl => match us, hl with | [_, _], _ => rfl
  have F11 := fun_mk (st := st_span) l11 c11 k11
  have b11 := F11.binds (ps := ["setting", "rows"]) fun _ _ _ _ _ _ us hl => match us, hl with | [_, _], _ => rfl
  have F12 := fun_mk (st := st_power) l12 c12 k12
  have b12 := F12.binds (ps := ["base", "exponent"]) fun _ _ _ _ _ _ us hl => match us, hl with | [_, _], _ => rfl
  have F13 := fun_mk (st := st_number_of_subspaces) l13 c13 k13
  have b13 := F13.binds (ps := ["p", "n", "k"]) fun _ _ _ _ _ _ us hl => match us, hl with | [_, _, _], _ => rfl
  have F14 := fun_mk (st := st_count_subspaces) l14 c14 k14
  have b14 := F14.binds (ps := ["setting", "k"]) fun _ _ _ _ _ _ us hl => match us, hl with | [_, _], _ => rfl
  have F15 := fun_mk (st := st__law_cell_at) l15 c15 k15
  have b15 := F15.binds (ps := ["_law_script", "_law_k"]) fun _ _ _ _ _ _ us hl => match us, hl with | [_, _], _ => rfl
  have F16 := fun_mk (st := st__law_mixed) l16 c16 k16
  have b16 := F16.binds (ps := ["_law_script", "_law_k", "_law_many"]) fun _ _ _ _ _ _ us hl => match us, hl with | [_, _, _], _ => rfl
  have F17 := fun_mk (st := st__law_draw) l17 c17 k17
  have b17 := F17.binds (ps := ["_law_script", "_law_town", "_law_many"]) fun _ _ _ _ _ _ us hl => match us, hl with | [_, _, _], _ => rfl
  have F18 := fun_mk (st := st__law_pick) l18 c18 k18
  have b18 := F18.binds (ps := ["_law_script", "_law_town", "_law_some"]) fun _ _ _ _ _ _ us hl => match us, hl with | [_, _, _], _ => rfl
  have F19 := fun_mk (st := st__law_every_row) l19 c19 k19
  have b19 := F19.binds (ps := ["_law_own"]) fun _ _ _ _ _ _ us hl => match us, hl with | [_], _ => rfl
  have F20 := fun_mk (st := st__law_size_by) l20 c20 k20
  have b20 := F20.binds (ps := ["_law_p", "_law_many"]) fun _ _ _ _ _ _ us hl => match us, hl with | [_, _], _ => rfl
  have F21 := fun_mk (st := st_law) l21 c21 k21
  have b21 := F21.binds (ps := ["_law_script"]) fun _ _ _ _ _ _ us hl => match us, hl with | [_], _ => rfl
  refine ⟨PySem.W.fnOf "law" "law" (defArgs st_law) (defBody st_law) (defScope st_law) .none kV21 dc21 pm21 an21 cd21 ct21, fun s v => .of_eq rfl, fun base _ _ => ?_⟩
  have h_is_number : DefOk P w K mg base "is_number" 1 3 F_is_number := ⟨f0, _, _, ok_is_number T F0 , PySem.W.mg_of X G a0, k0, b0⟩
  have h_check_number : DefOk P w K mg base "check_number" 2 2 F_check_number := ⟨f1, _, _, ok_check_number T F1 h_is_number, PySem.W.mg_of X G a1, k1, b1⟩
  have h_is_setting : DefOk P w K mg base "is_setting" 2 1 F_is_setting := ⟨f2, _, _, ok_is_setting T F2 h_is_number, PySem.W.mg_of X G a2, k2, b2⟩
  have h_check_setting : DefOk P w K mg base "check_setting" 3 1 F_check_setting := ⟨f3, _, _, ok_check_setting T F3 h_is_setting, PySem.W.mg_of X G a3, k3, b3⟩
  have h_is_row : DefOk P w K mg base "is_row" 4 2 F_is_row := ⟨f4, _, _, ok_is_row T F4 h_check_setting h_is_number, PySem.W.mg_of X G a4, k4, b4⟩
  have h_add_multiple : DefOk P w K mg base "add_multiple" 1 4 F_add_multiple := ⟨f5, _, _, ok_add_multiple T F5 , PySem.W.mg_of X G a5, k5, b5⟩
  have h_leading_place : DefOk P w K mg base "leading_place" 1 1 F_leading_place := ⟨f6, _, _, ok_leading_place T F6 , PySem.W.mg_of X G a6, k6, b6⟩
  have h_with_leading_one : DefOk P w K mg base "with_leading_one" 2 2 F_with_leading_one := ⟨f7, _, _, ok_with_leading_one T F7 h_leading_place, PySem.W.mg_of X G a7, k7, b7⟩
  have h_cleared : DefOk P w K mg base "cleared" 2 3 F_cleared := ⟨f8, _, _, ok_cleared T F8 h_add_multiple h_leading_place, PySem.W.mg_of X G a8, k8, b8⟩
  have h_remainder : DefOk P w K mg base "remainder" 3 3 F_remainder := ⟨f9, _, _, ok_remainder T F9 h_cleared, PySem.W.mg_of X G a9, k9, b9⟩
  have h_reduced_rows : DefOk P w K mg base "reduced_rows" 4 2 F_reduced_rows := ⟨f10, _, _, ok_reduced_rows T F10 h_remainder h_leading_place h_with_leading_one h_cleared, PySem.W.mg_of X G a10, k10, b10⟩
  have h_span : DefOk P w K mg base "span" 5 2 F_span := ⟨f11, _, _, ok_span T F11 h_check_setting h_is_row h_reduced_rows, PySem.W.mg_of X G a11, k11, b11⟩
  have h_power : DefOk P w K mg base "power" 1 2 F_power := ⟨f12, _, _, ok_power T F12 , PySem.W.mg_of X G a12, k12, b12⟩
  have h_number_of_subspaces : DefOk P w K mg base "number_of_subspaces" 9 3 F_number_of_subspaces := by
    have step : ∀ j : Nat, DefOk P w K mg base "number_of_subspaces" (1 + j) 3 (R_number_of_subspaces j) := fun j => by
      induction j with
      | zero => exact ⟨f13, _, _, fn_bad rfl, PySem.W.mg_of X G a13, k13, b13⟩
      | succ j ih => exact ⟨f13, _, _, ok_number_of_subspaces (Nat.le_add_right _ _) T F13 h_power ih, PySem.W.mg_of X G a13, k13, b13⟩
    exact step 8
  have h_count_subspaces : DefOk P w K mg base "count_subspaces" 10 2 F_count_subspaces := ⟨f14, _, _, ok_count_subspaces T F14 h_check_setting h_check_number h_number_of_subspaces, PySem.W.mg_of X G a14, k14, b14⟩
  have h__law_cell_at : DefOk P w K mg base "_law_cell_at" 1 2 F__law_cell_at := ⟨f15, _, _, ok__law_cell_at T F15 , PySem.W.mg_of X G a15, k15, b15⟩
  have h__law_mixed : DefOk P w K mg base "_law_mixed" 2 3 F__law_mixed := ⟨f16, _, _, ok__law_mixed T F16 h__law_cell_at, PySem.W.mg_of X G a16, k16, b16⟩
  have h__law_draw : DefOk P w K mg base "_law_draw" 3 3 F__law_draw := ⟨f17, _, _, ok__law_draw T F17 h__law_mixed, PySem.W.mg_of X G a17, k17, b17⟩
  have h__law_pick : DefOk P w K mg base "_law_pick" 4 3 F__law_pick := ⟨f18, _, _, ok__law_pick T F18 h__law_draw, PySem.W.mg_of X G a18, k18, b18⟩
  have h__law_every_row : DefOk P w K mg base "_law_every_row" 1 1 F__law_every_row := ⟨f19, _, _, ok__law_every_row T F19 , PySem.W.mg_of X G a19, k19, b19⟩
  have h__law_size_by : DefOk P w K mg base "_law_size_by" 1 2 F__law_size_by := ⟨f20, _, _, ok__law_size_by T F20 , PySem.W.mg_of X G a20, k20, b20⟩
  exact ok_law T F21 h__law_pick h__law_draw h__law_every_row h_span h__law_size_by h_count_subspaces
end K19
open PySem PySem.W PyProof.Rows
set_option maxRecDepth 100000 in
set_option maxHeartbeats 0 in
theorem PySem.Challenge.cw_smallspaces_k19_whole_chosen_rows_holds : PySem.Challenge.rw_smallspaces_k19_whole_chosen_rows.Holds := by
  w_on; o_law; k_head; (case hw => w_witness2)
  k_fill
  refine L2.walk_of (l := PySem.Challenge.rw_smallspaces_k19_whole_chosen_rows) (n := 63) (k := 11) (x := "_law_script") (CX := fun w => L2.CX PySem.Challenge.rw_smallspaces_k19_whole_chosen_rows.prog w) (sp := fun w => DL.spLaw _) rfl (by decide) rfl ⟨rfl, by decide, by decide⟩ (fun w h Y => PySem.W.kIn_of Y) ?F (fun _ H a ns hl _ hS => ⟨a, ns, rfl, hS, hl, rfl⟩) (fun w H s e s' h => DL.noOut w H s e s' h)
  case F =>
    intro w mg fa h KX G hmg
    refine DL.law_mk (F := M.F_law (SN.NBX PySem.Challenge.rw_smallspaces_k19_whole_chosen_rows.prog w)) (M.law_true _) ?_
    refine' K19.all_mk KX G hmg ?a0 ?l0 ?c0 ?k0 ?a1 ?l1 ?c1 ?k1 ?a2 ?l2 ?c2 ?k2 ?a3 ?l3 ?c3 ?k3 ?a4 ?l4 ?c4 ?k4 ?a5 ?l5 ?c5 ?k5 ?a6 ?l6 ?c6 ?k6 ?a7 ?l7 ?c7 ?k7 ?a8 ?l8 ?c8 ?k8 ?a9 ?l9 ?c9 ?k9 ?a10 ?l10 ?c10 ?k10 ?a11 ?l11 ?c11 ?k11 ?a12 ?l12 ?c12 ?k12 ?a13 ?l13 ?c13 ?k13 ?a14 ?l14 ?c14 ?k14 ?a15 ?l15 ?c15 ?k15 ?a16 ?l16 ?c16 ?k16 ?a17 ?l17 ?c17 ?k17 ?a18 ?l18 ?c18 ?k18 ?a19 ?l19 ?c19 ?k19 ?a20 ?l20 ?c20 ?k20 ?a21 ?l21 ?c21 ?k21 ?n_InvalidNumber ?x_InvalidNumber ?kc_InvalidNumber ?b_InvalidNumber ?t_InvalidNumber ?n_InvalidRows ?x_InvalidRows ?kc_InvalidRows ?b_InvalidRows ?t_InvalidRows ?n_InvalidSetting ?x_InvalidSetting ?kc_InvalidSetting ?b_InvalidSetting ?t_InvalidSetting ?n_LONGEST ?kl_LONGEST ?ki_LONGEST ?ks_LONGEST ?n_MOST_ROWS ?n_all ?n_bool ?n_enumerate ?n_int ?n_isinstance ?n_len ?n_list ?n_min ?n_range ?n_sorted ?n_sum ?n_tuple ?n_zip
    (case a0 => k_is); (case l0 => k_is); (case c0 => k_is); (case k0 => k_is); (case a1 => k_is); (case l1 => k_is); (case c1 => k_is); (case k1 => k_is); (case a2 => k_is); (case l2 => k_is); (case c2 => k_is); (case k2 => k_is); (case a3 => k_is); (case l3 => k_is); (case c3 => k_is); (case k3 => k_is); (case a4 => k_is); (case l4 => k_is); (case c4 => k_is); (case k4 => k_is); (case a5 => k_is); (case l5 => k_is); (case c5 => k_is); (case k5 => k_is); (case a6 => k_is); (case l6 => k_is); (case c6 => k_is); (case k6 => k_is); (case a7 => k_is); (case l7 => k_is); (case c7 => k_is); (case k7 => k_is); (case a8 => k_is); (case l8 => k_is); (case c8 => k_is); (case k8 => k_is); (case a9 => k_is); (case l9 => k_is); (case c9 => k_is); (case k9 => k_is); (case a10 => k_is); (case l10 => k_is); (case c10 => k_is); (case k10 => k_is); (case a11 => k_is); (case l11 => k_is); (case c11 => k_is); (case k11 => k_is); (case a12 => k_is); (case l12 => k_is); (case c12 => k_is); (case k12 => k_is); (case a13 => k_is); (case l13 => k_is); (case c13 => k_is); (case k13 => k_is); (case a14 => k_is); (case l14 => k_is); (case c14 => k_is); (case k14 => k_is); (case a15 => k_is); (case l15 => k_is); (case c15 => k_is); (case k15 => k_is); (case a16 => k_is); (case l16 => k_is); (case c16 => k_is); (case k16 => k_is); (case a17 => k_is); (case l17 => k_is); (case c17 => k_is); (case k17 => k_is); (case a18 => k_is); (case l18 => k_is); (case c18 => k_is); (case k18 => k_is); (case a19 => k_is); (case l19 => k_is); (case c19 => k_is); (case k19 => k_is); (case a20 => k_is); (case l20 => k_is); (case c20 => k_is); (case k20 => k_is); (case a21 => k_is); (case l21 => k_is); (case c21 => k_is); (case k21 => k_is); (case n_InvalidNumber => k_is); (case x_InvalidNumber => k_exc); (case kc_InvalidNumber => k_is); (case b_InvalidNumber => k_is); (case t_InvalidNumber => k_is); (case n_InvalidRows => k_is); (case x_InvalidRows => k_exc); (case kc_InvalidRows => k_is); (case b_InvalidRows => k_is); (case t_InvalidRows => k_is); (case n_InvalidSetting => k_is); (case x_InvalidSetting => k_exc); (case kc_InvalidSetting => k_is); (case b_InvalidSetting => k_is); (case t_InvalidSetting => k_is); (case n_LONGEST => k_is); (case kl_LONGEST => k_is); (case ki_LONGEST => decide +kernel); (case ks_LONGEST => decide +kernel); (case n_MOST_ROWS => k_is); (case n_all => k_is); (case n_bool => k_is); (case n_enumerate => k_is); (case n_int => k_is); (case n_isinstance => k_is); (case n_len => k_is); (case n_list => k_is); (case n_min => k_is); (case n_range => k_is); (case n_sorted => k_is); (case n_sum => k_is); (case n_tuple => k_is); (case n_zip => k_is)
