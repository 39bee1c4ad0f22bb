import PyProof.Rows.All
import Wide.All
import OpenK.AllK
import Wide.FinOn
import Open.SpecLaws
import KE.OsHead
import KE.OsGo
import HandS.ForSpec
import HandS.ForMost
import HandS.TupLen
import HandS.Flow
import PyFlatLaws
import PySem.Challenge.RW_keptsheets_s01_answers
set_option Elab.async false
set_option linter.all false
/-! The mathematics: the specification in the program's own order of work. Nothing of Python here. -/
namespace Kp
open Ie14
/-- an effect as the numbers that tell it -/
def encE : Effect → List Nat
  | .painted => [0]
  | .more a k => [1, a, k]
  | .turned a => [2, a]
  | .soft a => [3, a]
  | .moved a x y => [4, a, x, y]
  | .bright a t => [5, a, t]
  | .greater a b => [6, a, b]
  | .mean a b => [7, a, b]
  | .apart a b => [8, a, b]
  | .masked a b m => [9, a, b, m]
/-- the numbers that are kept small -/
def okE : Effect → Prop
  | .more _ k => k ≤ 255
  | .bright _ t => t ≤ 255
  | _ => True
theorem effectOf_some {k : Nat} {l : List Nat} {e : Effect} (h : effectOf k l = some e) : l = encE e ∧ (∀ a ∈ e.of, a < k) ∧ okE e := by
  unfold effectOf at h
  split at h
  all_goals first
    | (cases h; done)
    | (injection h with h; subst h; simp [encE, Effect.of, okE]; done)
    | (split at h
       · rename_i c
         injection h with h
         subst h
         simp [encE, Effect.of, okE]
         omega
       · cases h)
theorem effectOf_enc {k : Nat} {e : Effect} (h : ∀ a ∈ e.of, a < k) (o : okE e) : effectOf k (encE e) = some e := by
  cases e <;> simp [encE, Effect.of, okE, effectOf] at * <;> omega
/-! ### is_effect -/
theorem len1 {l : List Nat} (h : l.length = 1) : ∃ a, l = [a] := by
  match l, h with
  | [a], _ => exact ⟨a, rfl⟩
theorem len2 {l : List Nat} (h : l.length = 2) : ∃ a b, l = [a, b] := by
  match l, h with
  | [a, b], _ => exact ⟨a, b, rfl⟩
theorem len3 {l : List Nat} (h : l.length = 3) : ∃ a b c, l = [a, b, c] := by
  match l, h with
  | [a, b, c], _ => exact ⟨a, b, c, rfl⟩
def lenE (k : Nat) : Nat := [1, 3, 2, 2, 4, 3, 3, 3, 3, 4].getD k 0
def toldE (k : Nat) : Nat := [0, 1, 1, 1, 1, 1, 2, 2, 2, 3].getD k 0
/-- the def is_effect, as a function -/
def isEff (l : List Nat) (ahead : Nat) : Bool := match l with
  | [] => false
  | kind :: r => if 10 ≤ kind then false else if (kind :: r).length ≠ lenE kind then false else
    if (r.take (toldE kind)).any (fun a => decide (ahead ≤ a)) = true then false else
    if kind = 1 ∨ kind = 5 then decide (r.getD 1 0 ≤ 255) else true
theorem isEff_eq (l : List Nat) (ahead : Nat) : isEff l ahead = (effectOf ahead l).isSome := by
  match l with
  | [] => rfl
  | k :: r =>
    by_cases hk : 10 ≤ k
    · have e : effectOf ahead (k :: r) = none := by
        unfold effectOf
        split
        all_goals first | rfl | (rename_i q; injection q with q _; omega) | (rename_i q _; injection q with q _; omega) | skip
      rw [e]
      simp [isEff, hk]
    · have hk' : k < 10 := by omega
      by_cases hl : (k :: r).length = lenE k
      · have hc : k = 0 ∨ k = 1 ∨ k = 2 ∨ k = 3 ∨ k = 4 ∨ k = 5 ∨ k = 6 ∨ k = 7 ∨ k = 8 ∨ k = 9 := by omega
        rcases hc with rfl | rfl | rfl | rfl | rfl | rfl | rfl | rfl | rfl | rfl
        all_goals simp [lenE] at hl
        · subst hl; rfl
        · obtain ⟨a, b, rfl⟩ := len2 hl; by_cases h1 : ahead ≤ a <;> by_cases h3 : b ≤ 255 <;> simp [isEff, lenE, toldE, effectOf, h1, h3] <;> omega
        · obtain ⟨a, rfl⟩ := len1 hl; by_cases h1 : ahead ≤ a <;> simp [isEff, lenE, toldE, effectOf, h1] <;> omega
        · obtain ⟨a, rfl⟩ := len1 hl; by_cases h1 : ahead ≤ a <;> simp [isEff, lenE, toldE, effectOf, h1] <;> omega
        · obtain ⟨a, b, c, rfl⟩ := len3 hl; by_cases h1 : ahead ≤ a <;> simp [isEff, lenE, toldE, effectOf, h1] <;> omega
        · obtain ⟨a, b, rfl⟩ := len2 hl; by_cases h1 : ahead ≤ a <;> by_cases h3 : b ≤ 255 <;> simp [isEff, lenE, toldE, effectOf, h1, h3] <;> omega
        · obtain ⟨a, b, rfl⟩ := len2 hl; by_cases h1 : ahead ≤ a <;> by_cases h2 : ahead ≤ b <;> simp [isEff, lenE, toldE, effectOf, h1, h2] <;> omega
        · obtain ⟨a, b, rfl⟩ := len2 hl; by_cases h1 : ahead ≤ a <;> by_cases h2 : ahead ≤ b <;> simp [isEff, lenE, toldE, effectOf, h1, h2] <;> omega
        · obtain ⟨a, b, rfl⟩ := len2 hl; by_cases h1 : ahead ≤ a <;> by_cases h2 : ahead ≤ b <;> simp [isEff, lenE, toldE, effectOf, h1, h2] <;> omega
        · obtain ⟨a, b, c, rfl⟩ := len3 hl; by_cases h1 : ahead ≤ a <;> by_cases h2 : ahead ≤ b <;> by_cases h3 : ahead ≤ c <;> simp [isEff, lenE, toldE, effectOf, h1, h2, h3] <;> omega
      · have e : effectOf ahead (k :: r) = none := by
          cases q : effectOf ahead (k :: r) with
          | none => rfl
          | some e =>
            obtain ⟨h1, _⟩ := effectOf_some q
            cases e <;> simp [encE] at h1 <;> obtain ⟨rfl, rfl⟩ := h1 <;> simp [lenE] at hl
        rw [e]
        unfold isEff
        dsimp only
        rw [if_neg hk, if_pos hl]
        rfl
/-! ### lists of cells, row by row -/
theorem range_seg (a b : Nat) : ∀ h : Nat, (List.range h).filter (fun j => decide (a ≤ j) && decide (j < b)) = (List.range (min b h - a)).map (fun i => a + i)
  | 0 => by simp
  | h + 1 => by
    rw [List.range_succ, List.filter_append, range_seg a b h]
    by_cases c : a ≤ h ∧ h < b
    · have e : min b (h + 1) - a = (min b h - a) + 1 := by omega
      have e2 : a + (min b h - a) = h := by omega
      rw [e, List.range_succ, List.map_append]
      simp [c.1, c.2, e2]
    · have e : min b (h + 1) - a = min b h - a := by omega
      rw [e]
      have e2 : (decide (a ≤ h) && decide (h < b)) = false := by
        rw [Bool.and_eq_false_iff]
        rcases Nat.lt_or_ge h a with c1 | c1
        · left; simp; omega
        · right; simp; omega
      simp [e2]
theorem range_rows (w : Nat) (hw : 0 < w) (A B : Nat → Bool) : ∀ h : Nat, (List.range (w * h)).filter (fun i => A (i % w) && B (i / w)) = ((List.range h).filter B).flatMap fun y => ((List.range w).filter A).map fun x => y * w + x
  | 0 => by simp
  | h + 1 => by
    have e : List.range (w * (h + 1)) = List.range (w * h) ++ (List.range w).map (fun x => w * h + x) := by
      rw [Nat.mul_succ, List.range_add]
    rw [e, List.filter_append, range_rows w hw A B h, List.range_succ, List.filter_append, List.flatMap_append]
    congr 1
    rw [List.filter_map]
    have c1 : ∀ x, x ∈ List.range w → ((fun i => A (i % w) && B (i / w)) ∘ (fun x => w * h + x)) x = (A x && B h) := by
      intro x hx
      have hx' : x < w := List.mem_range.mp hx
      have m1 : (w * h + x) % w = x := by rw [Nat.mul_add_mod, Nat.mod_eq_of_lt hx']
      have m2 : (w * h + x) / w = h := by rw [Nat.mul_add_div hw, Nat.div_eq_of_lt hx', Nat.add_zero]
      show (A ((w * h + x) % w) && B ((w * h + x) / w)) = (A x && B h)
      rw [m1, m2]
    rw [List.filter_congr c1]
    cases hB : B h with
    | false => simp [hB]
    | true => simp [hB, Nat.mul_comm]
theorem gap_le {a b : Nat} : (gap a b ≤ 1) ↔ (a - 1 ≤ b ∧ b < a + 2) := by
  unfold gap
  omega
/-- a segment of numbers: what range(a, b) walks -/
def seg (a b : Nat) : List Nat := (List.range (b - a)).map fun i => a + i
theorem around_eq {w h i : Nat} (hw : 0 < w) : around w h i = (seg (i / w - 1) (min (i / w + 2) h)).flatMap fun y => (seg (i % w - 1) (min (i % w + 2) w)).map fun x => y * w + x := by
  unfold around seg
  rw [← range_seg, ← range_seg]
  rw [← range_rows w hw (fun x => decide (i % w - 1 ≤ x) && decide (x < i % w + 2)) (fun y => decide (i / w - 1 ≤ y) && decide (y < i / w + 2)) h]
  refine List.filter_congr fun j _ => ?_
  have e1 : decide (gap (i % w) (j % w) ≤ 1) = (decide (i % w - 1 ≤ j % w) && decide (j % w < i % w + 2)) := by
    rw [← Bool.decide_and]; exact decide_eq_decide.mpr gap_le
  have e2 : decide (gap (i / w) (j / w) ≤ 1) = (decide (i / w - 1 ≤ j / w) && decide (j / w < i / w + 2)) := by
    rw [← Bool.decide_and]; exact decide_eq_decide.mpr gap_le
  rw [e1, e2]
theorem box_eq {w h x y u v : Nat} (hw : 0 < w) : (List.range (w * h)).filter (inBox w x y u v) = (seg y (min (y + v) h)).flatMap fun r => (seg x (min (x + u) w)).map fun c => r * w + c := by
  unfold seg
  rw [← range_seg, ← range_seg]
  rw [← range_rows w hw (fun c => decide (x ≤ c) && decide (c < x + u)) (fun r => decide (y ≤ r) && decide (r < y + v)) h]
  refine List.filter_congr fun j _ => ?_
  unfold inBox
  rw [Bool.and_assoc]
/-! ### cells set, one by one -/
theorem cell_lt {w h x y : Nat} (hx : x < w) (hy : y < h) : y * w + x < w * h := by
  have h1 : (y + 1) * w ≤ h * w := Nat.mul_le_mul_right w hy
  rw [Nat.succ_mul, Nat.mul_comm h w] at h1
  omega
theorem seg_lt {a b : Nat} : ∀ {i : Nat}, i ∈ seg a b → a ≤ i ∧ i < b := by
  intro i hi
  obtain ⟨j, hj, rfl⟩ := List.mem_map.mp hi
  have := List.mem_range.mp hj
  omega
/-- a sheet's cells of L set by val: the sheet, and those of L that changed -/
def setL (n : Nat) (x : Sheet) (val : Nat → Nat) (L : List Nat) : Sheet × List Nat :=
  let v := x.cells.zipIdx.map fun q => if L.contains q.2 then val q.2 else q.1
  let c := L.filter fun i => v.getD i 0 != x.cells.getD i 0
  (⟨x.effect, v, news x.news c n⟩, c)
theorem again_eq (w h : Nat) (l : List Sheet) (x : Sheet) (t : List Nat) : again w h l x t = setL (w * h) x (fun i => x.effect.value w h i (cellsAt l)) t := rfl
/-- the def put, on a sheet -/
def putS (n : Nat) (x : Sheet) (i v : Nat) : Sheet := if x.cells.getD i 0 = v then x else ⟨x.effect, x.cells.set i v, news x.news [i] n⟩
def putC (x : Sheet) (i v : Nat) : List Nat := if x.cells.getD i 0 = v then [] else [i]
theorem set_getD (x : List Nat) (val : Nat → Nat) (L : List Nat) (i : Nat) (hi : i < x.length) : (x.zipIdx.map fun q => if L.contains q.2 then val q.2 else q.1).getD i 0 = if L.contains i then val i else x.getD i 0 := by
  simp [List.getD, List.getElem?_map, List.getElem?_zipIdx, hi]
theorem set_cells (x : List Nat) (val : Nat → Nat) (L : List Nat) (i : Nat) (hi : i < x.length) : (x.zipIdx.map fun q => if (L ++ [i]).contains q.2 then val q.2 else q.1) = (x.zipIdx.map fun q => if L.contains q.2 then val q.2 else q.1).set i (val i) := by
  apply List.ext_getElem?
  intro j
  by_cases e : i = j
  · subst e
    rw [List.getElem?_set_self (by simpa using hi)]
    simp [List.getElem?_zipIdx, hi]
  · rw [List.getElem?_set_ne e]
    simp only [List.getElem?_map, List.getElem?_zipIdx]
    cases x[j]? with
    | none => rfl
    | some v =>
      have e' : ¬ j = i := fun q => e q.symm
      simp [e']
theorem news_news (old c : List Nat) (i n : Nat) : news (news old c n) [i] n = news old (c ++ [i]) n := by
  unfold news
  refine List.filter_congr fun j hj => ?_
  have hj' : j < n := List.mem_range.mp hj
  have a : ((List.range n).filter fun i => old.contains i || c.contains i).contains j = (old.contains j || c.contains j) := by
    rw [Bool.eq_iff_iff]
    simp [hj']
  rw [a]
  simp [Bool.or_assoc]
theorem setL_nil {n : Nat} {x : Sheet} (val : Nat → Nat) (hn : x.news = (List.range n).filter fun i => x.news.contains i) : setL n x val [] = (x, []) := by
  have e1 : (x.cells.zipIdx.map fun q => if ([] : List Nat).contains q.2 then val q.2 else q.1) = x.cells := by
    apply List.ext_getElem?
    intro j
    simp only [List.getElem?_map, List.getElem?_zipIdx]
    cases x.cells[j]? <;> simp
  have e2 : news x.news [] n = x.news := by
    unfold news
    conv => rhs; rw [hn]
    refine List.filter_congr fun j _ => ?_
    simp
  show (Sheet.mk x.effect (x.cells.zipIdx.map fun q => if ([] : List Nat).contains q.2 then val q.2 else q.1) (news x.news [] n), ([] : List Nat)) = (x, [])
  rw [e1, e2]
theorem setL_old {n : Nat} {x : Sheet} {val : Nat → Nat} {L : List Nat} {i : Nat} (hl : x.cells.length = n) (hi : i < n) (hL : i ∉ L) : (setL n x val L).1.cells.getD i 0 = x.cells.getD i 0 := by
  show (x.cells.zipIdx.map fun q => if L.contains q.2 then val q.2 else q.1).getD i 0 = _
  rw [set_getD _ _ _ _ (by omega), if_neg (by simpa using hL)]
theorem setL_snoc {n : Nat} {x : Sheet} {val : Nat → Nat} {L : List Nat} {i : Nat} (hl : x.cells.length = n) (hi : i < n) (hL : i ∉ L) (hb : ∀ j ∈ L, j < n) :
    setL n x val (L ++ [i]) = (putS n (setL n x val L).1 i (val i), (setL n x val L).2 ++ putC (setL n x val L).1 i (val i)) := by
  have o := setL_old (val := val) hl hi hL
  have hi' : i < x.cells.length := by omega
  have ec : ((L ++ [i]).filter fun j => (x.cells.zipIdx.map fun q => if (L ++ [i]).contains q.2 then val q.2 else q.1).getD j 0 != x.cells.getD j 0) = (setL n x val L).2 ++ putC (setL n x val L).1 i (val i) := by
    rw [List.filter_append]
    congr 1
    · refine List.filter_congr fun j hj => ?_
      have hj' : j < x.cells.length := by have := hb j hj; omega
      rw [set_getD _ _ _ _ hj', set_getD _ _ _ _ hj']
      simp [hj]
    · unfold putC
      rw [o, List.filter_cons, set_getD _ _ _ _ hi']
      simp only [List.contains_append, List.filter_nil]
      by_cases e : x.cells.getD i 0 = val i
      · simp at e
        simp [e]
      · have e' : ¬ val i = x.cells.getD i 0 := fun q => e q.symm
        simp at e e'
        simp [e, e']
  show (Sheet.mk x.effect (x.cells.zipIdx.map fun q => if (L ++ [i]).contains q.2 then val q.2 else q.1) (news x.news ((L ++ [i]).filter fun j => (x.cells.zipIdx.map fun q => if (L ++ [i]).contains q.2 then val q.2 else q.1).getD j 0 != x.cells.getD j 0) n), _) = _
  rw [ec, set_cells _ _ _ _ hi']
  refine Prod.ext ?_ ?_
  · unfold putS putC
    by_cases e : (setL n x val L).1.cells.getD i 0 = val i
    · rw [if_pos e, if_pos e, List.append_nil]
      have e2 : (x.cells.zipIdx.map fun q => if L.contains q.2 then val q.2 else q.1).set i (val i) = (x.cells.zipIdx.map fun q => if L.contains q.2 then val q.2 else q.1) := by
        apply List.ext_getElem?
        intro j
        by_cases ej : i = j
        · subst ej
          rw [List.getElem?_set_self (by simpa using hi')]
          rw [o] at e
          simp [List.getD, List.getElem?_eq_getElem hi'] at e
          have hL' : L.contains i = false := by simpa using hL
          simp [List.getElem?_zipIdx, hi', hL, e]
        · rw [List.getElem?_set_ne ej]
      rw [e2]
      rfl
    · rw [if_neg e, if_neg e]
      show Sheet.mk x.effect _ (news x.news ((setL n x val L).2 ++ [i]) n) = Sheet.mk x.effect _ (news (news x.news (setL n x val L).2 n) [i] n)
      rw [news_news]
      rfl
  · rfl
/-! ### a change taken on, as a fold -/
def onStep (w h : Nat) (z : List Sheet × Changes × Nat) (x : Sheet) : List Sheet × Changes × Nat :=
  let t := touched w h z.2.1 x.effect
  let q := again w h z.1 x t
  (z.1 ++ [q.1], z.2.1 ++ [q.2], z.2.2 + t.length)
theorem onFrom_fold (w h : Nat) : ∀ (r l : List Sheet) (c : Changes) (m : Nat), (r.foldl (onStep w h) (l, c, m)).1 = (onFrom w h l c r).1 ∧ (r.foldl (onStep w h) (l, c, m)).2.2 = m + (onFrom w h l c r).2
  | [], l, c, m => ⟨rfl, rfl⟩
  | x :: r, l, c, m => by
    have ih := onFrom_fold w h r (l ++ [(again w h l x (touched w h c x.effect)).1]) (c ++ [(again w h l x (touched w h c x.effect)).2]) (m + (touched w h c x.effect).length)
    refine ⟨ih.1, ih.2.trans ?_⟩
    show _ = m + ((touched w h c x.effect).length + _)
    omega
/-! ### what changed, as a list of keys in their order -/
def dkP (c : Changes) : List (Nat × Nat) := c.zipIdx.flatMap fun q => q.1.map fun i => (q.2, i)
theorem dkP_snoc (c : Changes) (l : List Nat) : dkP (c ++ [l]) = dkP c ++ l.map fun i => (c.length, i) := by
  simp [dkP, List.zipIdx_append, List.zipIdx_cons]
theorem dkP_snoc2 (c : Changes) (l l2 : List Nat) : dkP (c ++ [l ++ l2]) = dkP (c ++ [l]) ++ l2.map fun i => (c.length, i) := by
  rw [dkP_snoc, dkP_snoc, List.map_append, List.append_assoc]
theorem dkP_mem (c : Changes) (a i : Nat) : (a, i) ∈ dkP c ↔ i ∈ c.getD a [] := by
  unfold dkP
  rw [List.mem_flatMap]
  constructor
  · rintro ⟨⟨l, b⟩, h1, h2⟩
    obtain ⟨j, hj, e⟩ := List.mem_map.mp h2
    injection e with e1 e2
    subst e1 e2
    have h3 := List.mem_zipIdx_iff_getElem?.mp h1
    simp only [List.getD, h3]
    exact hj
  · intro h
    cases e : c[a]? with
    | none => simp [List.getD, e] at h
    | some l =>
      simp only [List.getD, e] at h
      exact ⟨(l, a), List.mem_zipIdx_iff_getElem?.mpr e, List.mem_map.mpr ⟨i, h, rfl⟩⟩
end Kp














set_option Elab.async false
set_option linter.all false
set_option maxRecDepth 100000
set_option maxHeartbeats 2000000
namespace Kp
open PySem PySem.Spec PyProof.Rows L2
def top (i : Nat) : Stmt := PySem.Challenge.pw_keptsheets_s01_answers.main.body.getD i (.Pass ⟨0, 0, 0, 0⟩)
/-- a module's number -/
def GI (mg : Str → Option Value) (x : Str) (i : Int) : Prop := ∃ u, mg x = some u ∧ RelV (.int i) u
theorem pe_gi {X : Cx} {x : Str} {i : Int} {pos : Pos} (h : GI X.mg x i) (hg : Gl X x) (hd : (x == ("__debug__" : Str)) = false := by decide) : PE X (.Name x pos) (tC (.int i)) := by
  obtain ⟨u, h1, h2⟩ := h
  exact pe_glob hg h1 h2 hd
/-- a module's tuple of numbers -/
def TupK (K : PySem.W.Frag) (a : Addr) (ns : List Int) : Prop := ∀ H : Hp, SqT K H a (ns.map V.int)
/-- a def of the module, by its promise -/
structure Cal (P : Program) (w : World) (K : PySem.W.Frag) (mg : Str → Option Value) (base : Heap) (x : Str) (k : Nat) (ps : List Str) (sp : Sp) : Prop where
  ex : ∃ f fd, mg x = some (.ref f) ∧ FnOk P w K mg base CX0 k f fd ps sp ∧ Binds K fd ps [] ∧ PySem.W.keepIn K (.ref f) = true
theorem pe_cal {X : Cx} {k : Nat} {x : Str} {ps : List Str} {sp : Sp} {e : Expr} {es : List Expr} {t : TA} {p pos : Pos} (c : Cal X.prog X.w X.K X.mg X.base x k ps sp) (hr : Room k X.A) (hg : Gl X x) (ha : PA X (e :: es) t)
    (hdb : (x == ("__debug__" : Str)) = false := by decide) (he : starEach (e :: es) X.env = (false, eval e X.env) :: starEach es X.env := by rfl) (hpl : (backTo pos (starEach es X.env)).any (·.1) = false := by rfl) :
    PE X (.Call (.Name x p) (e :: es) [] pos) (tCall sp [] E0 t) := by
  obtain ⟨f, fd, h1, h2, h3, h4⟩ := c.ex
  exact pe_call h2 hr hg h1 h4 h3 .nil pass0 ha hdb he hpl
/-- numbers as values -/
def lN (l : List Nat) : List V := l.map fun (n : Nat) => V.int (n : Int)
theorem lN_length (l : List Nat) : (lN l).length = l.length := List.length_map ..
theorem lN_get (l : List Nat) (i : Nat) : (lN l)[i]? = (l[i]?).map fun (n : Nat) => V.int (n : Int) := List.getElem?_map ..
end Kp
set_option Elab.async false
set_option linter.all false
set_option maxRecDepth 100000
set_option maxHeartbeats 2000000
namespace Kp
open PySem PySem.Spec PyProof.Rows L2
open Ie14 (Effect Sheet near moveFrom around gap)
abbrev sTold : Stmt := top 14
abbrev sNear : Stmt := top 19
abbrev sMoved : Stmt := top 17
/-! ### the promises -/
def spNear : Sp := fun vs H Q _ => ∃ a b : Nat, vs = [.int (a : Int), .int (b : Int)] ∧ 0 < b ∧ b < 1000 ∧ Q (.int ((near a b : Nat) : Int)) H
def spMoved : Sp := fun vs H Q _ => ∃ i x y w h : Nat, vs = [.int (i : Int), .int (x : Int), .int (y : Int), .int (w : Int), .int (h : Int)] ∧ 0 < w ∧ w < 1000 ∧ 0 < h ∧ Q (.int ((moveFrom w h x y i : Nat) : Int)) H
def spTold (K : PySem.W.Frag) : Sp := fun vs H Q _ => ∃ (a : Addr) (kind : Nat) (r : List Nat), vs = [.ref a] ∧ SqL K H a (lN (kind :: r)) ∧ kind < 10 ∧
  ∀ H' p, Same H H' → H p = none → H' p = some (.lst (lN (r.take (toldE kind)))) → Q (.ref p) H'
theorem sub_mod {w : Nat} (hw : 0 < w) (a x : Nat) : ((a : Int) - (x : Int)) % (w : Int) = (((a + w - x % w) % w : Nat) : Int) := by
  have h1 : x % w < w := Nat.mod_lt _ hw
  have e : ((a + w - x % w : Nat) : Int) = (a : Int) - (x : Int) + (w : Int) * (((x / w : Nat) : Int) + 1) := by
    have h2 : (x : Int) = (w : Int) * ((x / w : Nat) : Int) + ((x % w : Nat) : Int) := by
      have := Nat.div_add_mod x w
      exact_mod_cast this.symm
    have h3 : ((a + w - x % w : Nat) : Int) = (a : Int) + (w : Int) - ((x % w : Nat) : Int) := by omega
    rw [h3, Int.mul_add, Int.mul_one]
    omega
  have e2 : (((a + w - x % w) % w : Nat) : Int) = ((a + w - x % w : Nat) : Int) % (w : Int) := Int.natCast_emod _ _
  rw [e2, e, Int.add_mul_emod_self_left]
theorem moved_eq {w h : Nat} (hw : 0 < w) (hh : 0 < h) (i x y : Nat) : (((i : Int) / (w : Int) - (y : Int)) % (h : Int)) * (w : Int) + (((i : Int) % (w : Int) - (x : Int)) % (w : Int)) = ((moveFrom w h x y i : Nat) : Int) := by
  have e1 := sub_mod hw (i % w) x
  have e2 := sub_mod hh (i / w) y
  rw [Int.natCast_emod] at e1
  rw [Int.natCast_ediv] at e2
  rw [e1, e2]
  unfold moveFrom
  rw [Int.natCast_add, Int.natCast_mul]
theorem near_eq (a b : Nat) : (2 * (a : Int) + (b : Int)) / (2 * (b : Int)) = ((near a b : Nat) : Int) := by
  unfold near
  rw [Int.natCast_ediv]
  norm_cast
section
variable {P : Program} {w : World} {K : PySem.W.Frag} {mg : Str → Option Value} {base : Heap}
theorem scNear : FnScope ["above", "below"] ["above", "below"] (defScope sNear) := ⟨rfl, rfl, rfl, by decide +kernel, rfl, by decide +kernel, by decide +kernel⟩
theorem ok_near {f : Addr} {fd : FuncData} (F : Fun K "nearest" "nearest" sNear f fd) : FnOk P w K mg base CX0 1 f fd ["above", "below"] spNear := by
  refine F.ok scNear (fun vs H Q E h => ?_) (fun cdv A outer s H vs Q E hr h => ?_)
  · obtain ⟨a, b, rfl, _⟩ := h
    rfl
  · obtain ⟨a, b, rfl, h1, h2, k⟩ := h
    refine ⟨_, pss_one (ps_ret (pe_op op_fdiv (pe_op op_add (pe_op op_mul pe_int (pv 0)) (pv 1)) (pe_op op_mul pe_int (pv 1)))), ?_⟩
    refine ⟨_, rfl, _, _, rfl, rfl, Or.inl ⟨by decide, by decide⟩, _, rfl, _, _, rfl, rfl, _, rfl, _, _, rfl, rfl, Or.inl ⟨by decide, by decide⟩, _, _, rfl, rfl, ⟨by omega, by omega⟩, ?_⟩
    have e := near_eq a b
    show Q (.int ((2 * (a : Int) + (b : Int)) / (2 * (b : Int)))) H
    rw [e]
    exact k
theorem scMoved : FnScope ["cell", "x", "y", "wide", "high", "column", "row"] ["cell", "x", "y", "wide", "high"] (defScope sMoved) := ⟨rfl, rfl, rfl, by decide +kernel, rfl, by decide +kernel, by decide +kernel⟩
theorem ok_moved {f : Addr} {fd : FuncData} (F : Fun K "moved_from" "moved_from" sMoved f fd) : FnOk P w K mg base CX0 1 f fd ["cell", "x", "y", "wide", "high"] spMoved := by
  refine F.ok scMoved (fun vs H Q E h => ?_) (fun cdv A outer s H vs Q E hr h => ?_)
  · obtain ⟨i, x, y, w, h, rfl, _⟩ := h
    rfl
  · obtain ⟨i, x, y, w, h, rfl, w0, w1, h0, k⟩ := h
    refine ⟨_, pss_cons (ps_set (i := 5) scMoved.nd rfl (Or.inl rfl) (pe_op op_mod (pe_op op_sub (pe_op op_mod (pv 0) (pv 3)) (pv 1)) (pv 3)))
      (pss_cons (ps_set (i := 6) scMoved.nd rfl (Or.inl rfl) (pe_op op_mod (pe_op op_sub (pe_op op_fdiv (pv 0) (pv 3)) (pv 2)) (pv 4)))
      (pss_one (ps_ret (pe_op op_add (pe_op op_mul (pv 6) (pv 3)) (pv 5))))), ?_⟩
    have w0' : (0 : Int) < (w : Int) := by omega
    have h0' : (0 : Int) < (h : Int) := by omega
    refine ⟨_, rfl, _, rfl, _, _, rfl, rfl, w0', _, rfl, _, _, rfl, rfl, _, rfl, _, _, rfl, rfl, w0', ?_⟩
    refine ⟨_, rfl, _, rfl, _, _, rfl, rfl, ⟨w0', by omega⟩, _, rfl, _, _, rfl, rfl, _, rfl, _, _, rfl, rfl, h0', ?_⟩
    refine ⟨_, rfl, _, rfl, _, _, rfl, rfl, Or.inr ⟨by omega, by omega⟩, _, rfl, _, _, rfl, rfl, ?_⟩
    have e := moved_eq w0 h0 i x y
    show Q (.int ((((i : Int) / (w : Int) - (y : Int)) % (h : Int)) * (w : Int) + (((i : Int) % (w : Int) - (x : Int)) % (w : Int)))) H
    rw [e]
    exact k
/-- effect[1:1 + t] -/
theorem cut_told (kind : Nat) (r : List Nat) (t : Nat) : cutV (lN (kind :: r)) (some 1) (some (1 + (t : Int))) = lN (r.take t) := by
  have e1 : HT.sIx (lN (kind :: r)).length 0 (some 1) = 1 := by
    rw [lN_length]
    show HT.sIx (r.length + 1) 0 (some ((1 : Nat) : Int)) = 1
    rw [HT.sIx_nat]; omega
  have e2 : HT.sIx (lN (kind :: r)).length (lN (kind :: r)).length (some (1 + (t : Int))) = min (1 + t) (r.length + 1) := by
    rw [lN_length]
    have q : (1 + (t : Int)) = ((1 + t : Nat) : Int) := by omega
    rw [q, HT.sIx_nat]
    rfl
  unfold cutV
  rw [e1, e2]
  show (lN r).take (min (1 + t) (r.length + 1) - 1) = lN (r.take t)
  unfold lN
  rw [← List.map_take]
  congr 1
  by_cases c : t ≤ r.length
  · rw [show min (1 + t) (r.length + 1) - 1 = t by omega]
  · rw [show min (1 + t) (r.length + 1) - 1 = r.length by omega, List.take_length, List.take_of_length_le (by omega)]
theorem scTold : FnScope ["effect"] ["effect"] (defScope sTold) := ⟨rfl, rfl, rfl, by decide +kernel, rfl, by decide +kernel, by decide +kernel⟩
/-- a module's tuple -/
structure GT (K : PySem.W.Frag) (mg : Str → Option Value) (x : Str) (ns : List Int) : Prop where
  ex : ∃ a, mg x = some (.ref a) ∧ TupK K a ns
theorem told_get {k : Nat} (hk : k < 10) : (([0, 1, 1, 1, 1, 1, 2, 2, 2, 3] : List Int).map V.int)[k]? = some (.int ((toldE k : Nat) : Int)) := by
  have hc : k = 0 ∨ k = 1 ∨ k = 2 ∨ k = 3 ∨ k = 4 ∨ k = 5 ∨ k = 6 ∨ k = 7 ∨ k = 8 ∨ k = 9 := by omega
  rcases hc with rfl | rfl | rfl | rfl | rfl | rfl | rfl | rfl | rfl | rfl <;> rfl
theorem len_get {k : Nat} (hk : k < 10) : (([1, 3, 2, 2, 4, 3, 3, 3, 3, 4] : List Int).map V.int)[k]? = some (.int ((lenE k : Nat) : Int)) := by
  have hc : k = 0 ∨ k = 1 ∨ k = 2 ∨ k = 3 ∨ k = 4 ∨ k = 5 ∨ k = 6 ∨ k = 7 ∨ k = 8 ∨ k = 9 := by omega
  rcases hc with rfl | rfl | rfl | rfl | rfl | rfl | rfl | rfl | rfl | rfl <;> rfl
theorem same_new {H : Hp} {p : Addr} {o : HO} (h : H p = none) : Same H (upd H p o) := fun b u e => by
  rw [upd_ne (ne_of_none e h)]
  exact e
theorem ok_told {f : Addr} {fd : FuncData} (F : Fun K "sheets_told" "sheets_told" sTold f fd) (T : GT K mg "SHEETS_TOLD" [0, 1, 1, 1, 1, 1, 2, 2, 2, 3]) : FnOk P w K mg base CX0 1 f fd ["effect"] (spTold K) := by
  obtain ⟨ta, T1, T2⟩ := T.ex
  refine F.ok scTold (fun vs H Q E h => ?_) (fun cdv A outer s H vs Q E hr h => ?_)
  · obtain ⟨i, x, y, rfl, _⟩ := h
    rfl
  · obtain ⟨a, kind, r, rfl, hs, hk, k⟩ := h
    refine ⟨_, pss_one (ps_ret (pe_slice sl_list (pv 0) (po_some pe_int) (po_some (pe_op op_add pe_int (pe_ix ix_tup (pe_glob (v := .ref ta) rfl T1 rfl) (pe_ix ix_list (pv 0) pe_int (fun _ _ => rfl)) (fun _ _ => rfl)))))), ?_⟩
    refine ⟨_, rfl, _, rfl, _, rfl, a, _, _, _, rfl, rfl, hs, atI_nat (j := 0) rfl, ta, _, _, _, rfl, rfl, T2 H, atI_nat (j := kind) (told_get hk), _, _, rfl, rfl, _, rfl, a, _, rfl, hs, fun p np => ?_⟩
    have e := cut_told kind r (toldE kind)
    refine k _ p (same_new np) np ?_
    rw [upd_same]
    exact congrArg (fun q => some (HO.lst q)) e
end
end Kp
set_option Elab.async false
set_option linter.all false
set_option maxRecDepth 100000
set_option maxHeartbeats 2000000
namespace Kp
open PySem PySem.Spec PyProof.Rows L2
open Ie14 (Effect Sheet near moveFrom around gap)
abbrev sIsE : Stmt := top 15
def spIsE (K : PySem.W.Frag) : Sp := fun vs H Q _ => ∃ (a : Addr) (l : List Nat) (ahead : Nat), vs = [.ref a, .int (ahead : Int)] ∧ SqL K H a (lN l) ∧ l.length ≤ 1000 ∧ ∀ H', Same H H' → Q (.bl (isEff l ahead)) H'
/-- what the defs of effects read of the module -/
structure TxE (K : PySem.W.Frag) (mg : Str → Option Value) : Prop where
  painted : GI mg "PAINTED" 0
  added : GI mg "ADDED" 1
  turned : GI mg "TURNED" 2
  soft : GI mg "SOFT" 3
  moved : GI mg "MOVED" 4
  cut : GI mg "CUT" 5
  greater : GI mg "GREATER" 6
  half : GI mg "HALF" 7
  difference : GI mg "DIFFERENCE" 8
  most : GI mg "MOST_NUMBER" 255
  bright : GI mg "BRIGHT" 128
  lengths : GT K mg "LENGTHS_effects" [1, 3, 2, 2, 4, 3, 3, 3, 3, 4]
  told : GT K mg "SHEETS_TOLD" [0, 1, 1, 1, 1, 1, 2, 2, 2, 3]
  len : mg "len" = none
  range : mg "range" = none
  max : mg "max" = none
  min : mg "min" = none
  abs : mg "abs" = none
  sum : mg "sum" = none
section
variable {P : Program} {w : World} {K : PySem.W.Frag} {mg : Str → Option Value} {base : Heap}
theorem if_true_of {c : Bool} {A B : Prop} (hc : c = true) (h : A) : if c = true then A else B := by
  rw [if_pos hc]
  exact h
theorem if_false_of {c : Bool} {A B : Prop} (hc : c = false) (h : B) : if c = true then A else B := by
  rw [hc, if_neg Bool.false_ne_true]
  exact h
theorem scIsE : FnScope ["effect", "ahead", "kind", "sheet"] ["effect", "ahead"] (defScope sIsE) := ⟨rfl, rfl, rfl, by decide +kernel, rfl, by decide +kernel, by decide +kernel⟩
theorem ok_isE {f : Addr} {fd : FuncData} (F : Fun K "is_effect" "is_effect" sIsE f fd) (T : TxE K mg) (C1 : Cal P w K mg base "sheets_told" 1 ["effect"] (spTold K)) : FnOk P w K mg base CX0 2 f fd ["effect", "ahead"] (spIsE K) := by
  obtain ⟨ta, T1, T2⟩ := T.lengths.ex
  refine F.ok scIsE (fun vs H Q E h => ?_) (fun cdv A outer s H vs Q E hr h => ?_)
  · obtain ⟨i, x, y, rfl, _⟩ := h
    rfl
  · obtain ⟨a, l, ahead, rfl, hs, hlen, k⟩ := h
    refine ⟨_, pss_cons (ps_if (PW.pt (pw_or (pt_cmpR op_eq (pe_callB call_len_seq (by rfl) T.len PySem.boot_len (pa_cons (pv 0) pa_nil)) pe_int (nomark _))
          (pw_or1 (pt_cmpR op_ge (pe_ix ix_list (pv 0) pe_int (fun _ _ => rfl)) (pe_callB call_len_seq (by rfl) T.len PySem.boot_len (pa_cons (pe_glob (v := .ref ta) rfl T1 rfl) pa_nil)) (nomark _))))) (pss_one (ps_ret pe_bl)) pss_nil)
      (pss_cons (ps_set (i := 2) scIsE.nd rfl (Or.inl rfl) (pe_ix ix_list (pv 0) pe_int (fun _ _ => rfl)))
      (pss_cons (ps_if (pt_cmpR op_ne (pe_callB call_len_seq (by rfl) T.len PySem.boot_len (pa_cons (pv 0) pa_nil)) (pe_ix ix_tup (pe_glob (v := .ref ta) rfl T1 rfl) (pv 2) (fun _ _ => rfl)) (nomark _)) (pss_one (ps_ret pe_bl)) pss_nil)
      (pss_cons (ps_for PassesOwn.never rfl (pi_list (pe_cal C1 hr rfl (pa_cons (pv 0) pa_nil))) (pg_name (i := 3) scIsE.nd rfl (Or.inl rfl))
          (pss_one (ps_if (pt_cmpR op_ge (pv 3) (pv 1) (nomark _)) (pss_one (ps_ret pe_bl)) pss_nil)))
      (pss_cons (ps_if (PW.pt (pw_or (pt_cmpR op_eq (pv 2) (pe_gi T.added rfl) (nomark _)) (pw_or1 (pt_cmpR op_eq (pv 2) (pe_gi T.cut rfl) (nomark _)))))
          (pss_one (ps_ret (pe_cmpR op_le (pe_ix ix_list (pv 0) pe_int (fun _ _ => rfl)) (pe_gi T.most rfl) (nomark _)))) pss_nil)
      (pss_one (ps_ret pe_bl)))))), ?_⟩
    cases l with
    | nil =>
      refine ⟨_, rfl, a, _, rfl, .inl hs, rfl, _, rfl, if_true_of (by decide) (if_true_of rfl ?_)⟩
      exact k H (Same.refl H)
    | cons kind r =>
      refine ⟨_, rfl, a, _, rfl, .inl hs, rfl, _, rfl, if_false_of (by rw [lN_length]; simp; omega) ?_⟩
      refine ⟨_, rfl, a, _, _, _, rfl, rfl, hs, atI_nat (j := 0) rfl, ta, _, rfl, .inr (T2 H), _, _, rfl, rfl, _, rfl, ?_⟩
      by_cases hk : 10 ≤ kind
      · refine if_true_of (by simp; omega) ?_
        have e : isEff (kind :: r) ahead = false := by simp [isEff, hk]
        rw [e] at k
        exact k H (Same.refl H)
      · refine if_false_of (by simp; omega) ?_
        have hk' : kind < 10 := by omega
        refine ⟨_, rfl, a, _, _, _, rfl, rfl, hs, atI_nat (j := 0) rfl, ?_⟩
        refine ⟨_, rfl, a, _, rfl, .inl hs, _, rfl, ta, _, _, _, rfl, rfl, T2 H, atI_nat (j := kind) (len_get hk'), rfl, _, rfl, ?_⟩
        by_cases hl : (kind :: r).length = lenE kind
        · refine if_false_of (by rw [lN_length, hl]; simp) ?_
          refine ⟨_, rfl, a, kind, r, rfl, hs, hk', fun H1 p s1 np hp => ?_⟩
          refine ⟨p, rfl, ⟨_, SqL.of hp⟩, for_list (K := K) (a := p) (xs := lN (r.take (toldE kind))) (fun i σ H' => ∃ v : Option V, H' = H1 ∧ σ = [some (.ref a), some (.int (ahead : Int)), some (.int (kind : Int)), v] ∧ ((r.take (toldE kind)).take i).any (fun a => decide (ahead ≤ a)) = false)
            ⟨none, rfl, rfl, rfl⟩ (fun i σ H' _ ⟨_, e, _⟩ => by rw [e]; exact SqL.of hp) ?_ ?_⟩
          · rintro i y σ H' hi ⟨v, rfl, rfl, hn⟩
            rw [lN_get] at hi
            obtain ⟨z, hz, rfl⟩ := Option.map_eq_some_iff.mp hi
            refine ⟨_, rfl, _, rfl, _, _, rfl, rfl, _, rfl, ?_⟩
            by_cases c : ahead ≤ z
            · refine if_true_of (by simp; omega) ?_
              have e : isEff (kind :: r) ahead = false := by
                unfold isEff
                dsimp only
                rw [if_neg hk, if_neg (by simpa using hl), if_pos]
                rw [List.any_eq_true]
                exact ⟨z, List.mem_of_getElem? hz, by simpa using c⟩
              rw [e] at k
              exact k H' s1
            · refine if_false_of (by simp; omega) ⟨some (.int (z : Int)), rfl, rfl, ?_⟩
              have e : (r.take (toldE kind)).take (i + 1) = (r.take (toldE kind)).take i ++ [z] := by
                rw [List.take_add_one, hz]; rfl
              rw [e, List.any_append, hn]
              simp; omega
          · rintro σ H' ⟨v, rfl, rfl, hn⟩
            rw [lN_length, List.take_length] at hn
            have e0 : isEff (kind :: r) ahead = if kind = 1 ∨ kind = 5 then decide (r.getD 1 0 ≤ 255) else true := by
              unfold isEff
              dsimp only
              rw [if_neg hk, if_neg (by simpa using hl), if_neg (by rw [hn]; simp)]
            have last : kind = 1 ∨ kind = 5 → (SqL K H' a (lN (kind :: r)) ∧ atI (lN (kind :: r)) 2 = some (.int ((r.getD 1 0 : Nat) : Int))) := by
              intro hc
              have hl2 : r.length = 2 := by
                rcases hc with rfl | rfl <;> simpa [lenE] using hl
              refine ⟨s1.seq hs, ?_⟩
              obtain ⟨b, c, rfl⟩ := len2 hl2
              exact atI_nat (j := 2) rfl
            refine ⟨_, rfl, rfl, _, rfl, ?_⟩
            by_cases c1 : kind = 1
            · obtain ⟨q1, q2⟩ := last (.inl c1)
              refine if_true_of (by simp [c1]) (if_true_of rfl ?_)
              refine ⟨_, rfl, a, _, _, _, rfl, rfl, q1, q2, _, _, rfl, rfl, ?_⟩
              rw [e0, if_pos (.inl c1)] at k
              have e2 : decide (((r.getD 1 0 : Nat) : Int) ≤ 255) = decide (r.getD 1 0 ≤ 255) := decide_eq_decide.mpr (by omega)
              rw [← e2] at k
              exact k H' s1
            · refine if_false_of (by simp; omega) ?_
              refine ⟨_, rfl, rfl, _, rfl, ?_⟩
              by_cases c5 : kind = 5
              · obtain ⟨q1, q2⟩ := last (.inr c5)
                refine if_true_of (by simp [c5]) ?_
                refine ⟨_, rfl, a, _, _, _, rfl, rfl, q1, q2, _, _, rfl, rfl, ?_⟩
                rw [e0, if_pos (.inr c5)] at k
                have e2 : decide (((r.getD 1 0 : Nat) : Int) ≤ 255) = decide (r.getD 1 0 ≤ 255) := decide_eq_decide.mpr (by omega)
                rw [← e2] at k
                exact k H' s1
              · refine if_false_of (by simp; omega) ?_
                rw [e0, if_neg (by omega)] at k
                exact k H' s1
        · refine if_true_of (by rw [lN_length]; simp at hl ⊢; omega) ?_
          have e : isEff (kind :: r) ahead = false := by
            unfold isEff
            dsimp only
            rw [if_neg hk, if_pos hl]
          rw [e] at k
          exact k H (Same.refl H)
end
end Kp
set_option Elab.async false
set_option linter.all false
set_option maxRecDepth 100000
set_option maxHeartbeats 2000000
namespace Kp
open PySem PySem.Spec PyProof.Rows L2
open Ie14 (Effect Sheet near moveFrom around gap)
abbrev sAround : Stmt := top 16
def spAround : Sp := fun vs H Q _ => ∃ (i w h : Nat), vs = [.int (i : Int), .int (w : Int), .int (h : Int)] ∧ 0 < w ∧ w ≤ 6 ∧ h ≤ 6 ∧ i < w * h ∧
  ∀ H' p, Same H H' → H p = none → H' p = some (.lst (lN (around w h i))) → Q (.ref p) H'
theorem seg_length (a b : Nat) : (seg a b).length = b - a := by simp [seg]
theorem seg_take {a b i : Nat} (h : i < b - a) : (seg a b).take (i + 1) = (seg a b).take i ++ [a + i] := by
  have e : (seg a b)[i]? = some (a + i) := by simp [seg, h]
  rw [List.take_add_one, e]; rfl
/-- rows ys of columns xs, as cells -/
def grid (w : Nat) (ys xs : List Nat) : List Nat := ys.flatMap fun y => xs.map fun x => y * w + x
theorem grid_length (w : Nat) (xs : List Nat) : ∀ ys : List Nat, (grid w ys xs).length = ys.length * xs.length
  | [] => by simp [grid]
  | y :: ys => by
    have ih := grid_length w xs ys
    unfold grid at ih ⊢
    rw [List.flatMap_cons, List.length_append, ih, List.length_map, List.length_cons, Nat.succ_mul]
    omega
theorem grid_snoc (w : Nat) (ys xs : List Nat) (y : Nat) : grid w (ys ++ [y]) xs = grid w ys xs ++ xs.map fun x => y * w + x := by
  simp [grid]
theorem lN_snoc (l : List Nat) (n : Nat) : lN (l ++ [n]) = lN l ++ [.int (n : Int)] := by simp [lN]
section
variable {P : Program} {w : World} {K : PySem.W.Frag} {mg : Str → Option Value} {base : Heap}
theorem scAround : FnScope ["cell", "wide", "high", "column", "row", "found", "y", "x"] ["cell", "wide", "high"] (defScope sAround) := ⟨rfl, rfl, rfl, by decide +kernel, rfl, by decide +kernel, by decide +kernel⟩
theorem ok_around {f : Addr} {fd : FuncData} (F : Fun K "cells_around" "cells_around" sAround f fd) (T : TxE K mg) : FnOk P w K mg base CX0 1 f fd ["cell", "wide", "high"] spAround := by
  refine F.ok scAround (fun vs H Q E h => ?_) (fun cdv A outer s H vs Q E hr h => ?_)
  · obtain ⟨i, x, y, rfl, _⟩ := h
    rfl
  · obtain ⟨i, w, h, rfl, w0, w6, h6, hi, k⟩ := h
    refine ⟨_, pss_cons (ps_set (i := 3) scAround.nd rfl (Or.inl rfl) (pe_op op_mod (pv 0) (pv 1)))
      (pss_cons (ps_set (i := 4) scAround.nd rfl (Or.inl rfl) (pe_op op_fdiv (pv 0) (pv 1)))
      (pss_cons (ps_set (i := 5) scAround.nd rfl (Or.inl rfl) (pe_lst pa_nil))
      (pss_cons (ps_for PassesOwn.never rfl (pi_range2 (by rfl) T.range (pa_cons (pe_callB (call_max2 rfl) (by rfl) T.max (by decide +kernel) (pa_cons (pe_op op_sub (pv 4) pe_int) (pa_cons pe_int pa_nil))) (pa_cons (pe_callB (call_min2 rfl) (by rfl) T.min (by decide +kernel) (pa_cons (pe_op op_add (pv 4) pe_int) (pa_cons (pv 2) pa_nil))) pa_nil))) (pg_name (i := 6) scAround.nd rfl (Or.inl rfl))
        (pss_one (ps_for PassesOwn.never rfl (pi_range2 (by rfl) T.range (pa_cons (pe_callB (call_max2 rfl) (by rfl) T.max (by decide +kernel) (pa_cons (pe_op op_sub (pv 3) pe_int) (pa_cons pe_int pa_nil))) (pa_cons (pe_callB (call_min2 rfl) (by rfl) T.min (by decide +kernel) (pa_cons (pe_op op_add (pv 3) pe_int) (pa_cons (pv 1) pa_nil))) pa_nil))) (pg_name (i := 7) scAround.nd rfl (Or.inl rfl))
          (pss_one (ps_expr (pe_bm PySem.F.plainAttrs_list PySem.F.slot_list_append PySem.F.type_list_append mt_append (pv 5) (pa_cons (pe_op op_add (pe_op op_mul (pv 6) (pv 1)) (pv 7)) pa_nil)))))))
      (pss_one (ps_ret (pv 5)))))), ?_⟩
    have w0' : (0 : Int) < (w : Int) := by omega
    refine ⟨_, rfl, _, rfl, _, _, rfl, rfl, w0', ?_⟩
    refine ⟨_, rfl, _, rfl, _, _, rfl, rfl, ⟨w0', by omega⟩, ?_⟩
    refine ⟨Nat.zero_le _, fun p np => ?_⟩
    have er : (i : Int) / (w : Int) = ((i / w : Nat) : Int) := (Int.natCast_ediv _ _).symm
    have ec : (i : Int) % (w : Int) = ((i % w : Nat) : Int) := (Int.natCast_emod _ _).symm
    have hr1 : i / w < h := Nat.div_lt_of_lt_mul hi
    have hc1 : i % w < w := Nat.mod_lt _ w0
    have emax : ∀ r : Nat, (if (0 : Int) > (r : Int) - 1 then (0 : Int) else (r : Int) - 1) = ((r - 1 : Nat) : Int) := by intro r; split <;> omega
    have emin : ∀ r t : Nat, (if (t : Int) < (r : Int) + 2 then (t : Int) else (r : Int) + 2) = ((min (r + 2) t : Nat) : Int) := by intro r t; split <;> omega
    have lx : (seg (i % w - 1) (min (i % w + 2) w)).length ≤ 3 := by rw [seg_length]; omega
    have ly : (seg (i / w - 1) (min (i / w + 2) h)).length ≤ 3 := by rw [seg_length]; omega
    have esz : sizeLine = 16777216 := sizeLine_eq
    have bnd : ∀ n : Nat, n ≤ 100 → -(2 ^ 62) ≤ (n : Int) ∧ (n : Int) < 2 ^ 62 := fun n hn => ⟨by omega, by omega⟩
    have b1 : i / w - 1 ≤ 100 := Nat.le_trans (Nat.sub_le _ _) (Nat.le_trans (Nat.le_of_lt hr1) (by omega))
    have b2 : min (i / w + 2) h ≤ 100 := Nat.le_trans (Nat.min_le_right _ _) (by omega)
    refine ⟨_, rfl, _, _, rfl, rfl, _, _, rfl, _, rfl, _, _, rfl, rfl, _, rfl, _, _, rfl, ?_⟩
    refine ⟨((i / w - 1 : Nat) : Int), ((min (i / w + 2) h : Nat) : Int), ?_, ⟨(bnd _ b1).1, (bnd _ b1).2, (bnd _ b2).1, (bnd _ b2).2⟩, for_range (lo := ((i / w - 1 : Nat) : Int)) (n := (((min (i / w + 2) h : Nat) : Int) - ((i / w - 1 : Nat) : Int)).toNat)
      (fun j σ H' => ∃ vy vx : Option V, σ = [some (.int (i : Int)), some (.int (w : Int)), some (.int (h : Int)), some (.int ((i % w : Nat) : Int)), some (.int ((i / w : Nat) : Int)), some (.ref p), vy, vx] ∧
        H' = upd H p (.lst (lN (grid w ((seg (i / w - 1) (min (i / w + 2) h)).take j) (seg (i % w - 1) (min (i % w + 2) w)))))) ⟨none, none, ?_, rfl⟩ ?_ ?_⟩
    · show [V.int (if (0 : Int) > (i : Int) / (w : Int) - 1 then (0 : Int) else (i : Int) / (w : Int) - 1), V.int (if (h : Int) < (i : Int) / (w : Int) + 2 then (h : Int) else (i : Int) / (w : Int) + 2)] = _
      rw [er, emax, emin]
    · rw [← ec, ← er]
      rfl
    · rintro j σ H' hj ⟨vy, vx, rfl, rfl⟩
      have hj' : j < min (i / w + 2) h - (i / w - 1) := (Int.toNat_sub _ _) ▸ hj
      refine ⟨_, rfl, _, _, rfl, rfl, _, _, rfl, _, rfl, _, _, rfl, rfl, _, rfl, _, _, rfl, ?_⟩
      refine ⟨((i % w - 1 : Nat) : Int), ((min (i % w + 2) w : Nat) : Int), ?_, ⟨by omega, by omega, by omega, by omega⟩, for_range (lo := ((i % w - 1 : Nat) : Int)) (n := (((min (i % w + 2) w : Nat) : Int) - ((i % w - 1 : Nat) : Int)).toNat)
        (fun m σ H' => ∃ vx : Option V, σ = [some (.int (i : Int)), some (.int (w : Int)), some (.int (h : Int)), some (.int ((i % w : Nat) : Int)), some (.int ((i / w : Nat) : Int)), some (.ref p), some (.int ((i / w - 1 + j : Nat) : Int)), vx] ∧
          H' = upd H p (.lst (lN (grid w ((seg (i / w - 1) (min (i / w + 2) h)).take j) (seg (i % w - 1) (min (i % w + 2) w)) ++ ((seg (i % w - 1) (min (i % w + 2) w)).take m).map fun x => (i / w - 1 + j) * w + x)))) ⟨vx, rfl, ?_⟩ ?_ ?_⟩
      · show [V.int (if (0 : Int) > ((i % w : Nat) : Int) - 1 then (0 : Int) else ((i % w : Nat) : Int) - 1), V.int (if (w : Int) < ((i % w : Nat) : Int) + 2 then (w : Int) else ((i % w : Nat) : Int) + 2)] = _
        rw [emax, emin]
      · simp
      · rintro m σ H' hm ⟨vx, rfl, rfl⟩
        have hm' : m < min (i % w + 2) w - (i % w - 1) := by omega
        refine ⟨_, rfl, .inl ⟨rfl, _, SqL.of upd_same⟩, _, rfl, _, rfl, _, _, rfl, rfl, Or.inr ⟨by omega, by omega⟩, _, rfl, _, _, rfl, rfl, p, _, _, rfl, rfl, upd_same, ?_, ?_⟩
        · have h1 : (grid w ((seg (i / w - 1) (min (i / w + 2) h)).take j) (seg (i % w - 1) (min (i % w + 2) w))).length ≤ 9 := by
            rw [grid_length]
            exact Nat.mul_le_mul (Nat.le_trans (List.length_take_le' _ _) ly) lx
          have h2 : (((seg (i % w - 1) (min (i % w + 2) w)).take m).map fun x => (i / w - 1 + j) * w + x).length ≤ 3 := by
            rw [List.length_map]
            exact Nat.le_trans (List.length_take_le' _ _) lx
          rw [lN_length, List.length_append, esz]
          omega
        · refine ⟨_, rfl, ?_⟩
          rw [upd_upd, seg_take hm', List.map_append, ← List.append_assoc]
          show upd H p (.lst (lN _ ++ [V.int (((i / w - 1 + j : Nat) : Int) * (w : Int) + (((i % w - 1 : Nat) : Int) + (m : Int)))])) = upd H p (.lst (lN (_ ++ [(i / w - 1 + j) * w + (i % w - 1 + m)])))
          rw [lN_snoc]
          have e9 : (((i / w - 1 + j) * w + (i % w - 1 + m) : Nat) : Int) = ((i / w - 1 + j : Nat) : Int) * (w : Int) + (((i % w - 1 : Nat) : Int) + (m : Int)) := by
            rw [Int.natCast_add, Int.natCast_mul, Int.natCast_add (i % w - 1) m]
          rw [e9]
      · rintro σ H' ⟨vx, rfl, rfl⟩
        refine ⟨_, vx, rfl, ?_⟩
        rw [seg_take hj', grid_snoc]
        have e8 : (seg (i % w - 1) (min (i % w + 2) w)).take ((((min (i % w + 2) w : Nat) : Int) - ((i % w - 1 : Nat) : Int)).toNat) = seg (i % w - 1) (min (i % w + 2) w) := List.take_of_length_le (by rw [seg_length, Int.toNat_sub]; exact Nat.le_refl _)
        rw [e8]
    · rintro σ H' ⟨vy, vx, rfl, rfl⟩
      refine ⟨_, rfl, ?_⟩
      have e8 : (seg (i / w - 1) (min (i / w + 2) h)).take ((((min (i / w + 2) h : Nat) : Int) - ((i / w - 1 : Nat) : Int)).toNat) = seg (i / w - 1) (min (i / w + 2) h) := List.take_of_length_le (by rw [seg_length, Int.toNat_sub]; exact Nat.le_refl _)
      rw [e8]
      refine k _ p (same_new np) np ?_
      rw [upd_same, around_eq w0]
      rfl
end
end Kp
set_option Elab.async false
set_option linter.all false
set_option maxRecDepth 100000
set_option maxHeartbeats 2000000
namespace Kp
open PySem PySem.Spec PyProof.Rows L2
open Ie14 (Effect Sheet near moveFrom around gap)
abbrev sNeeds : Stmt := top 18
def kindE : Effect → Nat
  | .painted => 0
  | .more _ _ => 1
  | .turned _ => 2
  | .soft _ => 3
  | .moved _ _ _ => 4
  | .bright _ _ => 5
  | .greater _ _ => 6
  | .mean _ _ => 7
  | .apart _ _ => 8
  | .masked _ _ _ => 9
def tailE (e : Effect) : List Nat := (encE e).tail
theorem enc_kind (e : Effect) : encE e = kindE e :: tailE e := by cases e <;> rfl
theorem kind_lt (e : Effect) : kindE e < 10 := by cases e <;> simp [kindE]
theorem tail_told (e : Effect) : (tailE e).take (toldE (kindE e)) = e.of := by cases e <;> rfl
theorem kind3 {e : Effect} (h : kindE e = 3) : ∃ a, e = .soft a := by cases e <;> first | exact ⟨_, rfl⟩ | (simp [kindE] at h)
theorem kind4 {e : Effect} (h : kindE e = 4) : ∃ a x y, e = .moved a x y := by cases e <;> first | exact ⟨_, _, _, rfl⟩ | (simp [kindE] at h)
theorem kind_needs {e : Effect} (h3 : kindE e ≠ 3) (h4 : kindE e ≠ 4) (w h i : Nat) : e.needs w h i = e.of.map fun a => (a, i) := by
  cases e <;> first | rfl | (exact absurd rfl h3) | (exact absurd rfl h4)
theorem around_len (w h i : Nat) : (around w h i).length ≤ w * h := by
  unfold around
  exact Nat.le_trans (List.length_filter_le _ _) (by simp)
theorem of_len (e : Effect) : e.of.length ≤ 3 := by cases e <;> simp [Effect.of]
/-- tuples of two numbers stand at ts -/
def Tups (H : Hp) (ts : List Addr) (qs : List (Nat × Nat)) : Prop := ts.length = qs.length ∧ ∀ (j : Nat) (t : Addr), ts[j]? = some t → ∃ q, qs[j]? = some q ∧ H t = some (.tup [.int (q.1 : Int), .int (q.2 : Int)])
theorem Tups.same {H H' : Hp} {ts : List Addr} {qs : List (Nat × Nat)} (h : Tups H ts qs) (s : Same H H') : Tups H' ts qs :=
  ⟨h.1, fun j t e => let ⟨q, h1, h2⟩ := h.2 j t e; ⟨q, h1, s _ _ h2⟩⟩
theorem Tups.snoc {H : Hp} {ts : List Addr} {qs : List (Nat × Nat)} {t : Addr} {q : Nat × Nat} (h : Tups H ts qs) (ht : H t = some (.tup [.int (q.1 : Int), .int (q.2 : Int)])) : Tups H (ts ++ [t]) (qs ++ [q]) := by
  refine ⟨by simp [h.1], fun j u e => ?_⟩
  by_cases c : j < ts.length
  · rw [List.getElem?_append_left c] at e
    obtain ⟨q', h1, h2⟩ := h.2 j u e
    exact ⟨q', by rw [List.getElem?_append_left (by rw [← h.1]; exact c)]; exact h1, h2⟩
  · rw [List.getElem?_append_right (by omega)] at e
    have c2 : j - ts.length = 0 := by
      cases q9 : j - ts.length with
      | zero => rfl
      | succ n => rw [q9] at e; simp at e
    rw [c2] at e
    have e' : t = u := by simpa using e
    subst e'
    exact ⟨q, by rw [List.getElem?_append_right (by rw [← h.1]; omega), ← h.1, c2]; rfl, ht⟩
def spNeeds (K : PySem.W.Frag) : Sp := fun vs H Q _ => ∃ (a : Addr) (e : Effect) (i w h : Nat), vs = [.ref a, .int (i : Int), .int (w : Int), .int (h : Int)] ∧ SqL K H a (lN (encE e)) ∧ 0 < w ∧ w ≤ 6 ∧ 0 < h ∧ h ≤ 6 ∧ i < w * h ∧
  ∀ H' p ts, Same H H' → H p = none → H' p = some (.lst (ts.map V.ref)) → Tups H' ts (e.needs w h i) → Q (.ref p) H'
section
variable {P : Program} {w : World} {K : PySem.W.Frag} {mg : Str → Option Value} {base : Heap}
/-- a list of tuples grown by one -/
theorem grow {H1 H2 : Hp} {D t : Addr} {ts : List Addr} {qs : List (Nat × Nat)} {q : Nat × Nat} (s : Same H1 H2) (hD : H1 D = none) (h2 : H2 D = some (.lst (ts.map V.ref))) (T : Tups H2 ts qs) (nt : H2 t = none) :
    let H3 := upd (upd H2 t (.tup [.int (q.1 : Int), .int (q.2 : Int)])) D (.lst (ts.map V.ref ++ [V.ref t]))
    Same H1 H3 ∧ H3 D = some (.lst ((ts ++ [t]).map V.ref)) ∧ Tups H3 (ts ++ [t]) (qs ++ [q]) := by
  intro H3
  have ntD : t ≠ D := fun z => by rw [z, h2] at nt; cases nt
  have keep : ∀ b o, H2 b = some o → b ≠ D → H3 b = some o := fun b o e hb => by
    show upd _ D _ b = _
    rw [upd_ne hb, upd_ne (ne_of_none e nt)]
    exact e
  refine ⟨fun b o e => keep b o (s b o e) (ne_of_none e hD), ?_, Tups.snoc ?_ ?_⟩
  · show upd _ D _ D = _
    rw [upd_same, List.map_append]
    rfl
  · refine ⟨T.1, fun j u e => ?_⟩
    obtain ⟨q', h3, h4⟩ := T.2 j u e
    exact ⟨q', h3, keep _ _ h4 (ne_of h4 h2 (by intro z; cases z))⟩
  · show upd _ D _ t = _
    rw [upd_ne ntD, upd_same]
theorem tYes_if {σ : L2.St} {H : Hp} {A B : Hp → Prop} (h : A H) : tYes σ H (fun b H3 => if b = true then A H3 else B H3) := by
  show (if true = true then A H else B H)
  rw [if_pos rfl]
  exact h
theorem scNeeds : FnScope ["effect", "cell", "wide", "high", "kind", "near", "sheet"] ["effect", "cell", "wide", "high"] (defScope sNeeds) := ⟨rfl, rfl, rfl, by decide +kernel, rfl, by decide +kernel, by decide +kernel⟩
theorem ok_needs {f : Addr} {fd : FuncData} (F : Fun K "needed_cells" "needed_cells" sNeeds f fd) (T : TxE K mg) (C1 : Cal P w K mg base "sheets_told" 1 ["effect"] (spTold K)) (C2 : Cal P w K mg base "cells_around" 1 ["cell", "wide", "high"] spAround)
    (C3 : Cal P w K mg base "moved_from" 1 ["cell", "x", "y", "wide", "high"] spMoved) : FnOk P w K mg base CX0 2 f fd ["effect", "cell", "wide", "high"] (spNeeds K) := by
  refine F.ok scNeeds (fun vs H Q E h => ?_) (fun cdv A outer s H vs Q E hr h => ?_)
  · obtain ⟨i, x, y, _, _, rfl, _⟩ := h
    rfl
  · obtain ⟨a, e, i, w, h, rfl, hs, w0, w6, h0, h6, hi, k⟩ := h
    refine ⟨_, pss_cons (ps_set (i := 4) scNeeds.nd rfl (Or.inl rfl) (pe_ix ix_list (pv 0) pe_int (fun _ _ => rfl)))
      (pss_cons (ps_if (pt_cmpR op_eq (pv 4) (pe_gi T.soft rfl) (nomark _))
        (pss_one (ps_ret (pe_lc (own := [("near", 5)]) (g := gName 5) (tt := tYes) rfl scNeeds.nd (pi_list (pe_cal C2 hr rfl (pa_cons (pv 1) (pa_cons (pv 2) (pa_cons (pv 3) pa_nil))))) (blkOk_by (own := [("near", 5)]) (N := ["effect", "cell", "wide", "high", "kind", "near", "sheet"]) (sc := defScope sNeeds) (by decide +kernel))
          (fun _ _ _ _ _ => pg_name (i := 5) scNeeds.nd rfl (Or.inl rfl)) (fun _ _ _ _ _ => pts_nil) (fun _ _ _ _ _ => pe_tup (pa_cons (pe_ix (r := rIxL K) ix_list (pv 0) pe_int (fun _ _ => rfl)) (pa_cons (pv 5) pa_nil)))))) pss_nil)
      (pss_cons (ps_if (pt_cmpR op_eq (pv 4) (pe_gi T.moved rfl) (nomark _))
        (pss_one (ps_ret (pe_lst (pa_cons (pe_tup (pa_cons (pe_ix ix_list (pv 0) pe_int (fun _ _ => rfl)) (pa_cons (pe_cal C3 hr rfl (pa_cons (pv 1) (pa_cons (pe_ix ix_list (pv 0) pe_int (fun _ _ => rfl)) (pa_cons (pe_ix ix_list (pv 0) pe_int (fun _ _ => rfl)) (pa_cons (pv 2) (pa_cons (pv 3) pa_nil)))))) pa_nil))) pa_nil)))) pss_nil)
      (pss_one (ps_ret (pe_lc (own := [("sheet", 6)]) (g := gName 6) (tt := tYes) rfl scNeeds.nd (pi_list (pe_cal C1 hr rfl (pa_cons (pv 0) pa_nil))) (blkOk_by (own := [("sheet", 6)]) (N := ["effect", "cell", "wide", "high", "kind", "near", "sheet"]) (sc := defScope sNeeds) (by decide +kernel))
          (fun _ _ _ _ _ => pg_name (i := 6) scNeeds.nd rfl (Or.inl rfl)) (fun _ _ _ _ _ => pts_nil) (fun _ _ _ _ _ => pe_tup (pa_cons (pv 6) (pa_cons (pv 1) pa_nil)))))))), ?_⟩
    have esz : sizeLine = 16777216 := sizeLine_eq
    have hwh : w * h ≤ 36 := Nat.mul_le_mul w6 h6
    have hs' : SqL K H a (lN (kindE e :: tailE e)) := by rw [← enc_kind]; exact hs
    refine ⟨_, rfl, a, _, _, _, rfl, rfl, hs', atI_nat (j := 0) rfl, ?_⟩
    refine ⟨_, rfl, rfl, _, rfl, ?_⟩
    by_cases c3 : kindE e = 3
    · refine if_true_of (by simp [c3]) ?_
      obtain ⟨b, rfl⟩ := kind3 c3
      refine ⟨_, rfl, _, rfl, _, rfl, i, w, h, rfl, w0, w6, h6, hi, fun H1 p s1 np hp => ?_⟩
      refine ⟨p, rfl, ⟨_, SqL.of hp⟩, fun D hD => lc_list (K := K) (a := p) (xs := lN (around w h i)) (fun j H' => ∃ ts, Same H1 H' ∧ H' D = some (.lst (ts.map V.ref)) ∧ Tups H' ts ((((around w h i).take j)).map fun c => (b, c)))
        ⟨[], same_new hD, upd_same, rfl, fun j t e => by simp at e⟩ (fun j H' _ ⟨ts, s2, _⟩ => SqL.of (s2 _ _ hp)) ?_ ?_⟩
      · rintro j x H' hx ⟨ts, s2, hD2, T2⟩
        rw [lN_get] at hx
        obtain ⟨z, hz, rfl⟩ := Option.map_eq_some_iff.mp hx
        refine ⟨rfl, tYes_if ?_⟩
        refine ⟨_, rfl, a, _, _, _, rfl, rfl, s2.seq (s1.seq hs'), atI_nat (j := 1) rfl, _, rfl, (by show 2 ≤ sizeLine; decide), fun t nt => ?_⟩
        have ntD : D ≠ t := fun q => by rw [← q, hD2] at nt; cases nt
        refine ⟨_, by rw [upd_ne ntD]; exact hD2, ?_, ts ++ [t], ?_⟩
        · have h1 := T2.1
          have h2 := around_len w h i
          rw [List.length_map, List.length_take] at h1
          rw [List.length_map, esz]
          omega
        · have e9 : (((around w h i).take (j + 1)).map fun c => (b, c)) = (((around w h i).take j).map fun c => (b, c)) ++ [(b, z)] := by rw [List.take_add_one, hz, List.map_append]; rfl
          rw [e9]
          exact grow (q := (b, z)) s2 hD hD2 T2 nt
      · rintro H' ⟨ts, s2, hD2, T2⟩
        rw [lN_length, List.take_length] at T2
        exact k H' D ts (s1.trans s2) (s1.free hD) hD2 T2
    · refine if_false_of (by simp; omega) ?_
      refine ⟨_, rfl, rfl, _, rfl, ?_⟩
      by_cases c4 : kindE e = 4
      · refine if_true_of (by simp [c4]) ?_
        obtain ⟨b, x, y, rfl⟩ := kind4 c4
        refine ⟨_, rfl, a, _, _, _, rfl, rfl, hs', atI_nat (j := 1) rfl, _, rfl, _, rfl, a, _, _, _, rfl, rfl, hs', atI_nat (j := 2) rfl, _, rfl, a, _, _, _, rfl, rfl, hs', atI_nat (j := 3) rfl, _, rfl, _, rfl, i, x, y, w, h, rfl, w0, by omega, h0, ?_⟩
        refine ⟨(by show 2 ≤ sizeLine; decide), fun t nt => ⟨(by show 1 ≤ sizeLine; decide), fun p np => ?_⟩⟩
        have ntp : t ≠ p := fun z => by rw [← z, upd_same] at np; cases np
        refine k _ p [t] ((same_new nt).trans (same_new np)) ((same_new nt).free np) upd_same ⟨rfl, fun j u e => ?_⟩
        match j, e with
        | 0, e =>
          have e' : t = u := by simpa using e
          subst e'
          exact ⟨_, rfl, by rw [upd_ne ntp, upd_same]⟩
        | j + 1, e => simp at e
      · refine if_false_of (by simp; omega) ?_
        rw [kind_needs c3 c4 w h i] at k
        refine ⟨_, rfl, a, kindE e, tailE e, rfl, hs', kind_lt e, fun H1 p s1 np hp => ?_⟩
        rw [tail_told] at hp
        refine ⟨p, rfl, ⟨_, SqL.of hp⟩, fun D hD => lc_list (K := K) (a := p) (xs := lN e.of) (fun j H' => ∃ ts, Same H1 H' ∧ H' D = some (.lst (ts.map V.ref)) ∧ Tups H' ts ((e.of.take j).map fun a => (a, i)))
          ⟨[], same_new hD, upd_same, rfl, fun j t e => by simp at e⟩ (fun j H' _ ⟨ts, s2, _⟩ => SqL.of (s2 _ _ hp)) ?_ ?_⟩
        · rintro j x H' hx ⟨ts, s2, hD2, T2⟩
          rw [lN_get] at hx
          obtain ⟨z, hz, rfl⟩ := Option.map_eq_some_iff.mp hx
          refine ⟨rfl, tYes_if ?_⟩
          refine ⟨_, rfl, _, rfl, (by show 2 ≤ sizeLine; decide), fun t nt => ?_⟩
          have ntD : D ≠ t := fun q => by rw [← q, hD2] at nt; cases nt
          refine ⟨_, by rw [upd_ne ntD]; exact hD2, ?_, ts ++ [t], ?_⟩
          · have h1 := T2.1
            have h2 := of_len e
            rw [List.length_map, List.length_take] at h1
            rw [List.length_map, esz]
            omega
          · have e9 : ((e.of.take (j + 1)).map fun a => (a, i)) = ((e.of.take j).map fun a => (a, i)) ++ [(z, i)] := by rw [List.take_add_one, hz, List.map_append]; rfl
            rw [e9]
            exact grow (q := (z, i)) s2 hD hD2 T2 nt
        · rintro H' ⟨ts, s2, hD2, T2⟩
          rw [lN_length, List.take_length] at T2
          exact k H' D ts (s1.trans s2) (s1.free hD) hD2 T2
end
end Kp
set_option Elab.async false
set_option linter.all false
set_option maxRecDepth 100000
set_option maxHeartbeats 2000000
namespace Kp
open PySem PySem.Spec PyProof.Rows L2
open Ie14 (Effect Sheet near moveFrom around gap)
abbrev sMade : Stmt := top 20
abbrev sMixed : Stmt := top 21
def mixV (kind x y : Nat) (r : List Nat) : Nat := if kind = 6 then max x y else if kind = 7 then near (x + y) 2 else if kind = 8 then gap x y else if 128 ≤ r.getD 0 0 then x else y
def spMixed (K : PySem.W.Frag) : Sp := fun vs H Q _ => ∃ (a : Addr) (kind x y : Nat) (r : List Nat), vs = [.int (kind : Int), .ref a] ∧ SqL K H a (lN (x :: y :: r)) ∧ (kind = 6 ∨ kind = 7 ∨ kind = 8 ∨ r ≠ []) ∧ Q (.int ((mixV kind x y r : Nat) : Int)) H
def spMade (K : PySem.W.Frag) : Sp := fun vs H Q _ => ∃ (a b : Addr) (e : Effect) (w h i : Nat) (v : Nat → Nat → Nat), vs = [.ref a, .ref b] ∧ SqL K H a (lN (encE e)) ∧ SqL K H b (lN ((e.needs w h i).map fun q => v q.1 q.2)) ∧ kindE e ≠ 0 ∧
  (∀ q ∈ e.needs w h i, v q.1 q.2 ≤ 255) ∧ 0 < w ∧ i < w * h ∧ w * h ≤ 36 ∧ Q (.int ((e.value w h i v : Nat) : Int)) H
theorem sum_acc : ∀ (l : List Nat) (a : Nat), l.foldl (fun a b => a + b) a = a + l.foldl (fun a b => a + b) 0
  | [], a => rfl
  | x :: l, a => by
    show l.foldl (fun a b => a + b) (a + x) = a + l.foldl (fun a b => a + b) (0 + x)
    rw [sum_acc l (a + x), sum_acc l (0 + x)]
    omega
theorem sum_int : ∀ l : List Nat, (l.map fun (n : Nat) => (n : Int)).sum = ((Ie14.sum l : Nat) : Int)
  | [] => rfl
  | x :: l => by
    have ih := sum_int l
    unfold Ie14.sum at ih ⊢
    rw [List.map_cons, List.sum_cons, ih, List.foldl_cons, sum_acc l (0 + x)]
    omega
theorem lN_int (l : List Nat) : lN l = (l.map fun (n : Nat) => (n : Int)).map V.int := by
  unfold lN
  rw [List.map_map]
  rfl
theorem around_self {w h i : Nat} (hi : i < w * h) : i ∈ around w h i := by
  unfold around
  rw [List.mem_filter]
  refine ⟨List.mem_range.mpr hi, ?_⟩
  simp [gap]
section
variable {P : Program} {w : World} {K : PySem.W.Frag} {mg : Str → Option Value} {base : Heap}
theorem scMixed : FnScope ["kind", "numbers", "first", "second"] ["kind", "numbers"] (defScope sMixed) := ⟨rfl, rfl, rfl, by decide +kernel, rfl, by decide +kernel, by decide +kernel⟩
theorem ok_mixed {f : Addr} {fd : FuncData} (F : Fun K "number_mixed" "number_mixed" sMixed f fd) (T : TxE K mg) (C1 : Cal P w K mg base "nearest" 1 ["above", "below"] spNear) : FnOk P w K mg base CX0 2 f fd ["kind", "numbers"] (spMixed K) := by
  refine F.ok scMixed (fun vs H Q E h => ?_) (fun cdv A outer s H vs Q E hr h => ?_)
  · obtain ⟨a, kind, x, y, r, rfl, _⟩ := h
    rfl
  · obtain ⟨a, kind, x, y, r, rfl, hs, hk, k⟩ := h
    refine ⟨_, pss_cons (ps_set (i := 2) scMixed.nd rfl (Or.inl rfl) (pe_ix ix_list (pv 1) pe_int (fun _ _ => rfl)))
      (pss_cons (ps_set (i := 3) scMixed.nd rfl (Or.inl rfl) (pe_ix ix_list (pv 1) pe_int (fun _ _ => rfl)))
      (pss_cons (ps_if (pt_cmpR op_eq (pv 0) (pe_gi T.greater rfl) (nomark _)) (pss_one (ps_ret (pe_callB (call_max2 rfl) (by rfl) T.max (by decide +kernel) (pa_cons (pv 2) (pa_cons (pv 3) pa_nil))))) pss_nil)
      (pss_cons (ps_if (pt_cmpR op_eq (pv 0) (pe_gi T.half rfl) (nomark _)) (pss_one (ps_ret (pe_cal C1 hr rfl (pa_cons (pe_op op_add (pv 2) (pv 3)) (pa_cons pe_int pa_nil))))) pss_nil)
      (pss_cons (ps_if (pt_cmpR op_eq (pv 0) (pe_gi T.difference rfl) (nomark _)) (pss_one (ps_ret (pe_callB call_abs (by rfl) T.abs (by decide +kernel) (pa_cons (pe_op op_sub (pv 2) (pv 3)) pa_nil)))) pss_nil)
      (pss_one (ps_ret (pe_ifExp (pt_cmpR op_ge (pe_ix ix_list (pv 1) pe_int (fun _ _ => rfl)) (pe_gi T.bright rfl) (nomark _)) (pv 2) (pv 3)))))))), ?_⟩
    refine ⟨_, rfl, a, _, _, _, rfl, rfl, hs, atI_nat (j := 0) rfl, ?_⟩
    refine ⟨_, rfl, a, _, _, _, rfl, rfl, hs, atI_nat (j := 1) rfl, ?_⟩
    refine ⟨_, rfl, rfl, _, rfl, ?_⟩
    unfold mixV at k
    by_cases c6 : kind = 6
    · refine if_true_of (by simp [c6]) ?_
      rw [if_pos c6] at k
      refine ⟨_, rfl, _, rfl, _, _, rfl, ?_⟩
      have e : (if (y : Int) > (x : Int) then (y : Int) else (x : Int)) = ((max x y : Nat) : Int) := by split <;> omega
      show Q (.int (if (y : Int) > (x : Int) then (y : Int) else (x : Int))) H
      rw [e]
      exact k
    · refine if_false_of (by simp; omega) ⟨_, rfl, rfl, _, rfl, ?_⟩
      rw [if_neg c6] at k
      by_cases c7 : kind = 7
      · refine if_true_of (by simp [c7]) ?_
        rw [if_pos c7] at k
        exact ⟨_, rfl, _, rfl, _, _, rfl, rfl, x + y, 2, rfl, by decide, by decide, k⟩
      · refine if_false_of (by simp; omega) ⟨_, rfl, rfl, _, rfl, ?_⟩
        rw [if_neg c7] at k
        by_cases c8 : kind = 8
        · refine if_true_of (by simp [c8]) ?_
          rw [if_pos c8] at k
          refine ⟨_, rfl, _, rfl, _, _, rfl, rfl, _, rfl, ?_⟩
          have e : (if (x : Int) - (y : Int) < 0 then -((x : Int) - (y : Int)) else (x : Int) - (y : Int)) = ((gap x y : Nat) : Int) := by unfold gap; split <;> omega
          show Q (.int (if (x : Int) - (y : Int) < 0 then -((x : Int) - (y : Int)) else (x : Int) - (y : Int))) H
          rw [e]
          exact k
        · refine if_false_of (by simp; omega) ?_
          rw [if_neg c8] at k
          have hr0 : r ≠ [] := by
            rcases hk with q | q | q | q
            · exact absurd q c6
            · exact absurd q c7
            · exact absurd q c8
            · exact q
          cases r with
          | nil => exact absurd rfl hr0
          | cons z r =>
            refine ⟨_, rfl, a, _, _, _, rfl, rfl, hs, atI_nat (j := 2) rfl, _, _, rfl, rfl, _, rfl, ?_⟩
            by_cases cz : 128 ≤ z
            · rw [if_pos (show 128 ≤ (z :: r).getD 0 0 from cz)] at k
              exact if_true_of (by simp; omega) ⟨_, rfl, k⟩
            · rw [if_neg (show ¬ 128 ≤ (z :: r).getD 0 0 from cz)] at k
              exact if_false_of (by simp; omega) ⟨_, rfl, k⟩
theorem scMade : FnScope ["effect", "numbers", "kind", "first"] ["effect", "numbers"] (defScope sMade) := ⟨rfl, rfl, rfl, by decide +kernel, rfl, by decide +kernel, by decide +kernel⟩
theorem ok_made {f : Addr} {fd : FuncData} (F : Fun K "number_made" "number_made" sMade f fd) (T : TxE K mg) (C1 : Cal P w K mg base "nearest" 1 ["above", "below"] spNear) (C2 : Cal P w K mg base "number_mixed" 2 ["kind", "numbers"] (spMixed K)) :
    FnOk P w K mg base CX0 3 f fd ["effect", "numbers"] (spMade K) := by
  refine F.ok scMade (fun vs H Q E h => ?_) (fun cdv A outer s H vs Q E hr h => ?_)
  · obtain ⟨a, b, e, w, h, i, v, rfl, _⟩ := h
    rfl
  · obtain ⟨a, b, e, w, h, i, v, rfl, hs, hb, hk, hv, w0, hi, hn, k⟩ := h
    have hr1 : Room 1 _ := hr.mono (by decide)
    refine ⟨_, pss_cons (ps_set (i := 2) scMade.nd rfl (Or.inl rfl) (pe_ix ix_list (pv 0) pe_int (fun _ _ => rfl)))
      (pss_cons (ps_set (i := 3) scMade.nd rfl (Or.inl rfl) (pe_ix ix_list (pv 1) pe_int (fun _ _ => rfl)))
      (pss_cons (ps_if (pt_cmpR op_eq (pv 2) (pe_gi T.added rfl) (nomark _)) (pss_one (ps_ret (pe_callB (call_min2 rfl) (by rfl) T.min (by decide +kernel) (pa_cons (pe_op op_add (pv 3) (pe_ix ix_list (pv 0) pe_int (fun _ _ => rfl))) (pa_cons (pe_gi T.most rfl) pa_nil))))) pss_nil)
      (pss_cons (ps_if (pt_cmpR op_eq (pv 2) (pe_gi T.turned rfl) (nomark _)) (pss_one (ps_ret (pe_op op_sub (pe_gi T.most rfl) (pv 3)))) pss_nil)
      (pss_cons (ps_if (pt_cmpR op_eq (pv 2) (pe_gi T.soft rfl) (nomark _)) (pss_one (ps_ret (pe_cal C1 hr1 rfl (pa_cons (pe_callB (cr_sum rfl) (by rfl) T.sum (by decide +kernel) (pa_cons (pv 1) pa_nil)) (pa_cons (pe_callB call_len_seq (by rfl) T.len PySem.boot_len (pa_cons (pv 1) pa_nil)) pa_nil))))) pss_nil)
      (pss_cons (ps_if (pt_cmpR op_eq (pv 2) (pe_gi T.moved rfl) (nomark _)) (pss_one (ps_ret (pv 3))) pss_nil)
      (pss_cons (ps_if (pt_cmpR op_eq (pv 2) (pe_gi T.cut rfl) (nomark _)) (pss_one (ps_ret (pe_ifExp (pt_cmpR op_ge (pv 3) (pe_ix ix_list (pv 0) pe_int (fun _ _ => rfl)) (nomark _)) (pe_gi T.most rfl) pe_int))) pss_nil)
      (pss_one (ps_ret (pe_cal C2 hr rfl (pa_cons (pv 2) (pa_cons (pv 1) pa_nil))))))))))), ?_⟩
    cases e with
    | painted => exact absurd rfl hk
    | more c t =>
      refine ⟨_, rfl, a, _, _, _, rfl, rfl, hs, atI_nat (j := 0) rfl, _, rfl, b, _, _, _, rfl, rfl, hb, atI_nat (j := 0) rfl, _, rfl, rfl, _, rfl, if_true_of (by simp) ?_⟩
      refine ⟨_, rfl, _, rfl, a, _, _, _, rfl, rfl, hs, atI_nat (j := 2) rfl, _, _, rfl, rfl, _, _, rfl, ?_⟩
      have e : (if (255 : Int) < ((v c i : Nat) : Int) + (t : Int) then (255 : Int) else ((v c i : Nat) : Int) + (t : Int)) = ((min 255 (v c i + t) : Nat) : Int) := by split <;> omega
      show Q (.int (if (255 : Int) < ((v c i : Nat) : Int) + (t : Int) then (255 : Int) else ((v c i : Nat) : Int) + (t : Int))) H
      rw [e]
      exact k
    | turned c =>
      refine ⟨_, rfl, a, _, _, _, rfl, rfl, hs, atI_nat (j := 0) rfl, _, rfl, b, _, _, _, rfl, rfl, hb, atI_nat (j := 0) rfl, _, rfl, rfl, _, rfl, if_false_of (by simp) ⟨_, rfl, rfl, _, rfl, if_true_of (by simp) ?_⟩⟩
      refine ⟨_, rfl, _, _, rfl, rfl, ?_⟩
      have h1 : v c i ≤ 255 := hv (c, i) (List.mem_singleton.mpr rfl)
      have e : (255 : Int) - ((v c i : Nat) : Int) = ((255 - v c i : Nat) : Int) := by omega
      show Q (.int ((255 : Int) - ((v c i : Nat) : Int))) H
      rw [e]
      exact k
    | soft c =>
      have hne : ∃ j r, around w h i = j :: r := by
        have := around_self hi
        cases q : around w h i with
        | nil => rw [q] at this; cases this
        | cons j r => exact ⟨j, r, rfl⟩
      obtain ⟨j, r, hjr⟩ := hne
      have hln : (around w h i).length ≤ 36 := Nat.le_trans (around_len w h i) hn
      have e1 : ((Effect.soft c).needs w h i).map (fun q => v q.1 q.2) = (around w h i).map (v c) := by
        show ((around w h i).map fun j => (c, j)).map _ = _
        rw [List.map_map]
        rfl
      rw [e1] at hb
      have hb0 : atI (lN ((around w h i).map (v c))) 0 = some (.int ((v c j : Nat) : Int)) := by rw [hjr]; exact atI_nat (j := 0) rfl
      refine ⟨_, rfl, a, _, _, _, rfl, rfl, hs, atI_nat (j := 0) rfl, _, rfl, b, _, _, _, rfl, rfl, hb, hb0, _, rfl, rfl, _, rfl, if_false_of (by simp) ⟨_, rfl, rfl, _, rfl, if_false_of (by simp) ⟨_, rfl, rfl, _, rfl, if_true_of (by simp) ?_⟩⟩⟩
      have hb2 := hb
      rw [lN_int] at hb2
      refine ⟨_, rfl, b, _, rfl, hb2, _, rfl, b, _, rfl, .inl hb, Ie14.sum ((around w h i).map (v c)), (around w h i).length, ?_, by rw [hjr]; simp, by omega, k⟩
      rw [sum_int, lN_length, List.length_map]
      rfl
    | moved c x y =>
      refine ⟨_, rfl, a, _, _, _, rfl, rfl, hs, atI_nat (j := 0) rfl, _, rfl, b, _, _, _, rfl, rfl, hb, atI_nat (j := 0) rfl, _, rfl, rfl, _, rfl, if_false_of (by simp) ⟨_, rfl, rfl, _, rfl, if_false_of (by simp) ⟨_, rfl, rfl, _, rfl, if_false_of (by simp) ⟨_, rfl, rfl, _, rfl, if_true_of (by simp) ?_⟩⟩⟩⟩
      exact ⟨_, rfl, k⟩
    | bright c t =>
      refine ⟨_, rfl, a, _, _, _, rfl, rfl, hs, atI_nat (j := 0) rfl, _, rfl, b, _, _, _, rfl, rfl, hb, atI_nat (j := 0) rfl, _, rfl, rfl, _, rfl, if_false_of (by simp) ⟨_, rfl, rfl, _, rfl, if_false_of (by simp) ⟨_, rfl, rfl, _, rfl, if_false_of (by simp) ⟨_, rfl, rfl, _, rfl, if_false_of (by simp) ⟨_, rfl, rfl, _, rfl, if_true_of (by simp) ?_⟩⟩⟩⟩⟩
      refine ⟨_, rfl, _, rfl, a, _, _, _, rfl, rfl, hs, atI_nat (j := 2) rfl, _, _, rfl, rfl, _, rfl, ?_⟩
      have k' : Q (.int ((if t ≤ v c i then 255 else 0 : Nat) : Int)) H := k
      by_cases ct : t ≤ v c i
      · rw [if_pos ct] at k'
        exact if_true_of (by simp; omega) k'
      · rw [if_neg ct] at k'
        exact if_false_of (by simp; omega) k'
    | greater c d =>
      refine ⟨_, rfl, a, _, _, _, rfl, rfl, hs, atI_nat (j := 0) rfl, _, rfl, b, _, _, _, rfl, rfl, hb, atI_nat (j := 0) rfl, _, rfl, rfl, _, rfl, if_false_of (by simp) ⟨_, rfl, rfl, _, rfl, if_false_of (by simp) ⟨_, rfl, rfl, _, rfl, if_false_of (by simp) ⟨_, rfl, rfl, _, rfl, if_false_of (by simp) ⟨_, rfl, rfl, _, rfl, if_false_of (by simp) ?_⟩⟩⟩⟩⟩
      exact ⟨_, rfl, _, rfl, b, 6, v c i, v d i, [], rfl, hb, .inl rfl, k⟩
    | mean c d =>
      refine ⟨_, rfl, a, _, _, _, rfl, rfl, hs, atI_nat (j := 0) rfl, _, rfl, b, _, _, _, rfl, rfl, hb, atI_nat (j := 0) rfl, _, rfl, rfl, _, rfl, if_false_of (by simp) ⟨_, rfl, rfl, _, rfl, if_false_of (by simp) ⟨_, rfl, rfl, _, rfl, if_false_of (by simp) ⟨_, rfl, rfl, _, rfl, if_false_of (by simp) ⟨_, rfl, rfl, _, rfl, if_false_of (by simp) ?_⟩⟩⟩⟩⟩
      exact ⟨_, rfl, _, rfl, b, 7, v c i, v d i, [], rfl, hb, .inr (.inl rfl), k⟩
    | apart c d =>
      refine ⟨_, rfl, a, _, _, _, rfl, rfl, hs, atI_nat (j := 0) rfl, _, rfl, b, _, _, _, rfl, rfl, hb, atI_nat (j := 0) rfl, _, rfl, rfl, _, rfl, if_false_of (by simp) ⟨_, rfl, rfl, _, rfl, if_false_of (by simp) ⟨_, rfl, rfl, _, rfl, if_false_of (by simp) ⟨_, rfl, rfl, _, rfl, if_false_of (by simp) ⟨_, rfl, rfl, _, rfl, if_false_of (by simp) ?_⟩⟩⟩⟩⟩
      exact ⟨_, rfl, _, rfl, b, 8, v c i, v d i, [], rfl, hb, .inr (.inr (.inl rfl)), k⟩
    | masked c d m =>
      refine ⟨_, rfl, a, _, _, _, rfl, rfl, hs, atI_nat (j := 0) rfl, _, rfl, b, _, _, _, rfl, rfl, hb, atI_nat (j := 0) rfl, _, rfl, rfl, _, rfl, if_false_of (by simp) ⟨_, rfl, rfl, _, rfl, if_false_of (by simp) ⟨_, rfl, rfl, _, rfl, if_false_of (by simp) ⟨_, rfl, rfl, _, rfl, if_false_of (by simp) ⟨_, rfl, rfl, _, rfl, if_false_of (by simp) ?_⟩⟩⟩⟩⟩
      exact ⟨_, rfl, _, rfl, b, 9, v c i, v d i, [v m i], rfl, hb, .inr (.inr (.inr (by simp))), k⟩
end
end Kp
set_option Elab.async false
set_option linter.all false
set_option maxRecDepth 100000
set_option maxHeartbeats 2000000
namespace Kp
open PySem PySem.Spec PyProof.Rows L2
open Ie14 (Effect Sheet near moveFrom around gap inBox cellsAt)
/-! ### how a page lies in the heap -/
/-- where a sheet's parts stand: the instance, its effect, its numbers, its marks -/
structure Lay where
  s : Addr
  e : Addr
  c : Addr
  f : Addr
def sF (q : Lay) : List (Str × V) := [("effect", .ref q.e), ("numbers", .ref q.c), ("fresh", .ref q.f)]
def pF (w h : Nat) (l : Addr) : List (Str × V) := [("wide", .int (w : Int)), ("high", .int (h : Int)), ("sheets", .ref l)]
def frs (n : Nat) (news : List Nat) : List V := (List.range n).map fun i => V.bl (news.contains i)
structure ShAt (CS : Addr) (H : Hp) (n : Nat) (q : Lay) (x : Sheet) : Prop where
  ins : ∃ dx, H q.s = some (.ins CS dx (sF q))
  eff : H q.e = some (.lst (lN (encE x.effect)))
  cel : H q.c = some (.lst (lN x.cells))
  fre : H q.f = some (.lst (frs n x.news))
def foot (p l : Addr) (qs : List Lay) : List Addr := p :: l :: qs.flatMap fun q => [q.s, q.e, q.c, q.f]
structure PgAt (CP CS : Addr) (H : Hp) (p l : Addr) (qs : List Lay) (s : Ie14.St) : Prop where
  ins : ∃ dx, H p = some (.ins CP dx (pF s.w s.h l))
  lst : H l = some (.lst (qs.map fun q => V.ref q.s))
  len : qs.length = s.sheets.length
  at_ : ∀ (k : Nat) (q : Lay) (x : Sheet), qs[k]? = some q → s.sheets[k]? = some x → ShAt CS H s.n q x
  nd : (foot p l qs).Nodup
/-- all that was tracked stands as it was, but for some -/
def Only (H H' : Hp) (ch : List Addr) : Prop := ∀ b o, H b = some o → b ∉ ch → H' b = some o
theorem same_only {H H' : Hp} {ch : List Addr} (s : Same H H') : Only H H' ch := fun b o e _ => s b o e
theorem Only.refl {H : Hp} {ch : List Addr} : Only H H ch := fun _ _ e _ => e
theorem Only.trans {H H1 H2 : Hp} {ch : List Addr} (a : Only H H1 ch) (b : Only H1 H2 ch) : Only H H2 ch := fun c o e n => b c o (a c o e n) n
theorem Only.mono {H H' : Hp} {ch ch' : List Addr} (a : Only H H' ch) (h : ∀ b ∈ ch, b ∈ ch') : Only H H' ch' := fun c o e n => a c o e fun q => n (h c q)
theorem only_upd {H : Hp} {a : Addr} {o : HO} : Only H (upd H a o) [a] := fun b u e n => by
  rw [upd_ne (fun q => n (by rw [q]; exact List.mem_singleton.mpr rfl))]
  exact e
theorem lk_here {k : Str} {v : V} {r : List (Str × V)} : List.lookup k ((k, v) :: r) = some v := by
  have e : (k == k) = true := beq_self_eq_true k
  simp only [List.lookup, e]
theorem lk_past {k g : Str} {v : V} {r : List (Str × V)} (h : (k == g) = false) : List.lookup k ((g, v) :: r) = List.lookup k r := by
  simp only [List.lookup, h]
theorem put_here {f : Str} {v x : V} {r : List (Str × V)} : putF f v ((f, x) :: r) = (f, v) :: r := if_pos rfl
theorem put_past {f g : Str} {v x : V} {r : List (Str × V)} (h : ¬ g = f) : putF f v ((g, x) :: r) = (g, x) :: putF f v r := if_neg h
theorem pF_wide {w h : Nat} {l : Addr} : (pF w h l).lookup ("wide" : Str) = some (.int (w : Int)) := lk_here
theorem pF_high {w h : Nat} {l : Addr} : (pF w h l).lookup ("high" : Str) = some (.int (h : Int)) := (lk_past (by decide +kernel)).trans lk_here
theorem pF_sheets {w h : Nat} {l : Addr} : (pF w h l).lookup ("sheets" : Str) = some (.ref l) := (lk_past (by decide +kernel)).trans ((lk_past (by decide +kernel)).trans lk_here)
theorem pF_no {w h : Nat} {l : Addr} {m : Str} (h1 : (m == ("wide" : Str)) = false := by decide +kernel) (h2 : (m == ("high" : Str)) = false := by decide +kernel) (h3 : (m == ("sheets" : Str)) = false := by decide +kernel) : (pF w h l).lookup m = none :=
  (lk_past h1).trans ((lk_past h2).trans ((lk_past h3).trans rfl))
theorem sF_effect {q : Lay} : (sF q).lookup ("effect" : Str) = some (.ref q.e) := lk_here
theorem sF_numbers {q : Lay} : (sF q).lookup ("numbers" : Str) = some (.ref q.c) := (lk_past (by decide +kernel)).trans lk_here
theorem sF_fresh {q : Lay} : (sF q).lookup ("fresh" : Str) = some (.ref q.f) := (lk_past (by decide +kernel)).trans ((lk_past (by decide +kernel)).trans lk_here)
theorem sF_no {q : Lay} {m : Str} (h1 : (m == ("effect" : Str)) = false := by decide +kernel) (h2 : (m == ("numbers" : Str)) = false := by decide +kernel) (h3 : (m == ("fresh" : Str)) = false := by decide +kernel) : (sF q).lookup m = none :=
  (lk_past h1).trans ((lk_past h2).trans ((lk_past h3).trans rfl))
theorem pF_new {w h : Nat} {l : Addr} : putF "sheets" (.ref l) (putF "high" (.int (h : Int)) (putF "wide" (.int (w : Int)) [])) = pF w h l := by
  show putF "sheets" (.ref l) (putF "high" (.int (h : Int)) [("wide", .int (w : Int))]) = _
  rw [put_past (by decide +kernel)]
  show putF "sheets" (.ref l) (("wide", V.int (w : Int)) :: [("high", .int (h : Int))]) = _
  rw [put_past (by decide +kernel), put_past (by decide +kernel)]
  rfl
theorem pF_put {w h w0 h0 : Nat} {l l0 : Addr} : putF "sheets" (.ref l) (putF "high" (.int (h : Int)) (putF "wide" (.int (w : Int)) (pF w0 h0 l0))) = pF w h l := by
  unfold pF
  rw [put_here, put_past (by decide +kernel), put_here, put_past (by decide +kernel), put_past (by decide +kernel), put_here]
theorem sF_new {x e c f : Addr} : putF "fresh" (.ref f) (putF "numbers" (.ref c) (putF "effect" (.ref e) [])) = sF ⟨x, e, c, f⟩ := by
  show putF "fresh" (.ref f) (putF "numbers" (.ref c) ([("effect", .ref e)] : List (Str × V))) = _
  rw [put_past (by decide +kernel)]
  show putF "fresh" (.ref f) (("effect", V.ref e) :: ([("numbers", .ref c)] : List (Str × V))) = _
  rw [put_past (by decide +kernel), put_past (by decide +kernel)]
  rfl
theorem sF_put {q : Lay} {e : Addr} : putF "effect" (.ref e) (sF q) = sF { q with e := e } := put_here
/-! ### a method of a class, by its promise -/
structure CalM (P : Program) (w : World) (K : PySem.W.Frag) (mg : Str → Option Value) (base : Heap) (C : Addr) (m : Str) (k : Nat) (ps : List Str) (sp : Sp) : Prop where
  ex : ∃ f fd, Meth K C m f ∧ FnOk P w K mg base CX0 k f fd ps sp ∧ Binds K fd ps []
theorem pe_mth {X : Cx} {C : Addr} {k : Nat} {m : Str} {ps : List Str} {sp : Sp} {o e : Expr} {es : List Expr} {ta : TE} {t : TA} {apos pos : Pos} {pl : Sem Bool} (he : PE X o ta) (c : Cls X.K C) (cm : CalM X.prog X.w X.K X.mg X.base C m k ps sp) (hr : Room k X.A) (ha : PA X (e :: es) t)
    (hst : starEach (e :: es) X.env = (false, eval e X.env) :: starEach es X.env := by rfl) (hpl : (backTo pos (starEach es X.env)).any (·.1) = false := by rfl)
    (ht : eval (.Call (.Attribute o m apos) (e :: es) [] pos) X.env = (do
      let ov ← eval o X.env
      standAt apos.atName
      let (f, first) ← holding [ov] (getMethod ov m pl)
      callWith pos f first (backTo pos (starEach (e :: es) X.env)) (backToKw pos (keywordEach [] X.env))) := by rfl) :
    PE X (.Call (.Attribute o m apos) (e :: es) [] pos) (tMeth C m sp [] E0 ta t) := by
  obtain ⟨f, fd, h1, h2, h3⟩ := cm.ex
  exact pe_meth he c h1 h2 hr h3 .nil pass0 ha hst hpl ht
theorem pe_mth0 {X : Cx} {C : Addr} {k : Nat} {m : Str} {ps : List Str} {sp : Sp} {o : Expr} {ta : TE} {apos pos : Pos} {pl : Sem Bool} (he : PE X o ta) (c : Cls X.K C) (cm : CalM X.prog X.w X.K X.mg X.base C m k ps sp) (hr : Room k X.A)
    (ht : eval (.Call (.Attribute o m apos) [] [] pos) X.env = (do
      let ov ← eval o X.env
      standAt apos.atName
      let (f, first) ← holding [ov] (getMethod ov m pl)
      callWith pos f first (backTo pos (starEach [] X.env)) (backToKw pos (keywordEach [] X.env))) := by rfl) :
    PE X (.Call (.Attribute o m apos) [] [] pos) (tMeth C m sp [] E0 ta tNil) := by
  obtain ⟨f, fd, h1, h2, h3⟩ := cm.ex
  exact pe_meth0 he c h1 h2 hr h3 .nil pass0 ht
/-- what the top has written of the two classes -/
structure TxC (K : PySem.W.Frag) (mg : Str → Option Value) (CP CS : Addr) : Prop where
  gP : mg "Page" = some (.ref CP)
  gS : mg "Sheet" = some (.ref CS)
  clP : Cls K CP
  clS : Cls K CS
  nW : NoAttr K CP "wide"
  nH : NoAttr K CP "high"
  nS : NoAttr K CP "sheets"
  nE : NoAttr K CS "effect"
  nN : NoAttr K CS "numbers"
  nF : NoAttr K CS "fresh"
abbrev cSheet : Stmt := top 43
abbrev cPage : Stmt := top 44
abbrev sSInit : Stmt := inClass cSheet 0
abbrev sIsP : Stmt := inClass cSheet 1
abbrev sPInit : Stmt := inClass cPage 0
abbrev sBegin : Stmt := inClass cPage 1
abbrev sSize : Stmt := inClass cPage 2
abbrev sHasS : Stmt := inClass cPage 3
abbrev sHasC : Stmt := inClass cPage 4
abbrev sCellAt : Stmt := inClass cPage 5
abbrev sInBox : Stmt := inClass cPage 6
/-! ### promises -/
def spSInit (K : PySem.W.Frag) (CS : Addr) : Sp := fun vs H Q _ => ∃ (x dx e c : Addr) (xs : List V), vs = [.ref x, .ref e, .ref c] ∧ H x = some (.ins CS dx []) ∧ H c = some (.lst xs) ∧ xs.length ≤ 36 ∧
  ∀ (H' : Hp) (f : Addr), H' x = some (.ins CS dx (sF ⟨x, e, c, f⟩)) → H f = none → H' f = some (.lst (xs.map fun _ => .bl true)) → Only H H' [x] → Q .non H'
def spIsP (K : PySem.W.Frag) (CS : Addr) : Sp := fun vs H Q _ => ∃ (dx : Addr) (q : Lay) (e : Effect), vs = [.ref q.s] ∧ H q.s = some (.ins CS dx (sF q)) ∧ SqL K H q.e (lN (encE e)) ∧ Q (.bl (decide (e = .painted))) H
def spBegin (CP : Addr) : Sp := fun vs H Q _ => ∃ (p dx : Addr) (w h : Nat) (fs : List (Str × V)), vs = [.ref p, .int (w : Int), .int (h : Int)] ∧ H p = some (.ins CP dx fs) ∧ (fs = [] ∨ ∃ w0 h0 l0, fs = pF w0 h0 l0) ∧
  ∀ (H' : Hp) (l : Addr), H' p = some (.ins CP dx (pF w h l)) → H l = none → H' l = some (.lst []) → Only H H' [p] → Q .non H'
def spSize (CP : Addr) : Sp := fun vs H Q _ => ∃ (p dx l : Addr) (w h : Nat), vs = [.ref p] ∧ H p = some (.ins CP dx (pF w h l)) ∧ w ≤ 6 ∧ Q (.int ((w * h : Nat) : Int)) H
def spHasS (K : PySem.W.Frag) (CP : Addr) : Sp := fun vs H Q _ => ∃ (p dx l : Addr) (w h k : Nat) (xs : List V), vs = [.ref p, .int (k : Int)] ∧ H p = some (.ins CP dx (pF w h l)) ∧ H l = some (.lst xs) ∧ Q (.bl (decide (k < xs.length))) H
def spHasC (CP : Addr) : Sp := fun vs H Q _ => ∃ (p dx l : Addr) (w h x y : Nat), vs = [.ref p, .int (x : Int), .int (y : Int)] ∧ H p = some (.ins CP dx (pF w h l)) ∧ Q (.bl (decide (x < w ∧ y < h))) H
def spCellAt (CP : Addr) : Sp := fun vs H Q _ => ∃ (p dx l : Addr) (w h x y : Nat), vs = [.ref p, .int (x : Int), .int (y : Int)] ∧ H p = some (.ins CP dx (pF w h l)) ∧ w ≤ 6 ∧ Q (.int ((y * w + x : Nat) : Int)) H
def spInBox (CP : Addr) : Sp := fun vs H Q _ => ∃ (p dx l : Addr) (w h x y u v : Nat), vs = [.ref p, .int (x : Int), .int (y : Int), .int (u : Int), .int (v : Int)] ∧ H p = some (.ins CP dx (pF w h l)) ∧ 0 < w ∧ w ≤ 6 ∧ h ≤ 6 ∧ x ≤ 4294967295 ∧ y ≤ 4294967295 ∧ u ≤ 4294967295 ∧ v ≤ 4294967295 ∧
  ∀ H' a, Same H H' → H a = none → H' a = some (.lst (lN ((List.range (w * h)).filter (inBox w x y u v)))) → Q (.ref a) H'
section
variable {P : Program} {w : World} {K : PySem.W.Frag} {mg : Str → Option Value} {base : Heap} {CP CS : Addr}
theorem scSInit : FnScope ["self", "effect", "numbers", "number"] ["self", "effect", "numbers"] (defScope sSInit) := ⟨rfl, rfl, rfl, by decide +kernel, rfl, by decide +kernel, by decide +kernel⟩
theorem ok_sinit {f : Addr} {fd : FuncData} (F : Fun K "__init__" "Sheet.__init__" sSInit f fd) (T : TxC K mg CP CS) : FnOk P w K mg base CX0 1 f fd ["self", "effect", "numbers"] (spSInit K CS) := by
  refine F.ok scSInit (fun vs H Q E h => ?_) (fun cdv A outer s H vs Q E hr h => ?_)
  · obtain ⟨x, dx, e, c, xs, rfl, _⟩ := h
    rfl
  · obtain ⟨x, dx, e, c, xs, rfl, hx, hc, hln, k⟩ := h
    refine ⟨_, pss_cons (ps_fld (pv 0) (pv 1) rfl) (pss_cons (ps_fld (pv 0) (pv 2) rfl) (pss_one (ps_fld (pv 0)
      (pe_lc (own := [("number", 3)]) (g := gName 3) (tt := tYes) rfl scSInit.nd (pi_list (pv 2)) (blkOk_by (own := [("number", 3)]) (N := ["self", "effect", "numbers", "number"]) (sc := defScope sSInit) (by decide +kernel))
          (fun _ _ _ _ _ => pg_name (i := 3) scSInit.nd rfl (Or.inl rfl)) (fun _ _ _ _ _ => pts_nil) (fun _ _ _ _ _ => pe_bl)) rfl))), ?_⟩
    have ncx : c ≠ x := ne_of hc hx (by intro z; cases z)
    refine ⟨_, rfl, _, rfl, x, CS, dx, [], rfl, hx, T.clS, T.nE, (by show 0 < 1000; decide), ?_⟩
    refine ⟨_, rfl, _, rfl, x, CS, dx, _, rfl, upd_same, T.clS, T.nN, (by show 1 < 1000; decide), ?_⟩
    have hc2 : upd (upd H x (.ins CS dx (putF "effect" (.ref e) []))) x (.ins CS dx (putF "numbers" (.ref c) (putF "effect" (.ref e) []))) c = some (.lst xs) := by rw [upd_ne ncx, upd_ne ncx]; exact hc
    refine ⟨_, rfl, c, rfl, ⟨_, SqL.of hc2⟩, fun D hD => lc_list (K := K) (a := c) (xs := xs) (fun j H' => H' = upd (upd (upd H x (.ins CS dx (putF "effect" (.ref e) []))) x (.ins CS dx (putF "numbers" (.ref c) (putF "effect" (.ref e) [])))) D (.lst ((xs.take j).map fun _ => V.bl true)))
      rfl (fun j H' _ e9 => ?_) ?_ ?_⟩
    · rw [e9]
      exact SqL.of (by rw [upd_ne (ne_of_none hc2 hD)]; exact hc2)
    · rintro j y H' hy rfl
      refine ⟨rfl, tYes_if ?_⟩
      have esz : sizeLine = 16777216 := sizeLine_eq
      refine ⟨_, upd_same, ?_, ?_⟩
      · rw [List.length_map, List.length_take, esz]; omega
      · rw [upd_upd]
        have e9 : ((xs.take (j + 1)).map fun _ => V.bl true) = ((xs.take j).map fun _ => V.bl true) ++ [V.bl true] := by rw [List.take_add_one, hy, List.map_append]; rfl
        rw [e9]
    · rintro H' rfl
      rw [List.take_length]
      have nxD : x ≠ D := fun z => by rw [← z, upd_same] at hD; cases hD
      have hDx : H D = none := by
        rw [upd_ne (fun z => nxD z.symm), upd_ne (fun z => nxD z.symm)] at hD
        exact hD
      refine ⟨_, rfl, x, CS, dx, _, rfl, by rw [upd_ne nxD]; exact upd_same, T.clS, T.nF, (by show 2 < 1000; decide), ?_⟩
      refine k _ D ?_ hDx ?_ ?_
      · rw [upd_same]
        exact congrArg (fun q => some (HO.ins CS dx q)) sF_new
      · rw [upd_ne (fun z => nxD z.symm), upd_same]
      · intro b o e9 hb
        have hbx : b ≠ x := fun z => hb (by rw [z]; exact List.mem_singleton.mpr rfl)
        rw [upd_ne hbx, upd_ne (ne_of_none e9 hDx), upd_ne hbx, upd_ne hbx]
        exact e9
theorem kind0 {e : Effect} : kindE e = 0 ↔ e = .painted := by cases e <;> simp [kindE]
theorem scIsP : FnScope ["self"] ["self"] (defScope sIsP) := ⟨rfl, rfl, rfl, by decide +kernel, rfl, by decide +kernel, by decide +kernel⟩
theorem ok_isP {f : Addr} {fd : FuncData} (F : Fun K "is_painted" "Sheet.is_painted" sIsP f fd) (T : TxC K mg CP CS) (TE : TxE K mg) : FnOk P w K mg base CX0 1 f fd ["self"] (spIsP K CS) := by
  refine F.ok scIsP (fun vs H Q E h => ?_) (fun cdv A outer s H vs Q E hr h => ?_)
  · obtain ⟨dx, q, e, rfl, _⟩ := h
    rfl
  · obtain ⟨dx, q, e, rfl, hq, he, k⟩ := h
    refine ⟨_, pss_one (ps_ret (pe_cmpR op_eq (pe_ix ix_list (pe_fld (pv 0) rfl) pe_int (fun _ _ => rfl)) (pe_gi TE.painted rfl) (nomark _))), ?_⟩
    rw [enc_kind] at he
    refine ⟨_, rfl, q.s, CS, dx, _, _, rfl, hq, T.clS, T.nE, sF_effect, q.e, _, _, _, rfl, rfl, he, atI_nat (j := 0) rfl, rfl, ?_⟩
    have e9 : decide (V.int ((kindE e : Nat) : Int) = V.int 0) = decide (e = .painted) := by
      refine decide_eq_decide.mpr ?_
      rw [← kind0]
      constructor
      · intro z; injection z with z; omega
      · intro z; rw [z]; rfl
    show Q (.bl (decide (V.int ((kindE e : Nat) : Int) = V.int 0))) H
    rw [e9]
    exact k
theorem scBegin : FnScope ["self", "wide", "high"] ["self", "wide", "high"] (defScope sBegin) := ⟨rfl, rfl, rfl, by decide +kernel, rfl, by decide +kernel, by decide +kernel⟩
theorem ok_begin {f : Addr} {fd : FuncData} (F : Fun K "begin" "Page.begin" sBegin f fd) (T : TxC K mg CP CS) : FnOk P w K mg base CX0 1 f fd ["self", "wide", "high"] (spBegin CP) := by
  refine F.ok scBegin (fun vs H Q E h => ?_) (fun cdv A outer s H vs Q E hr h => ?_)
  · obtain ⟨p, dx, w, h, fs, rfl, _⟩ := h
    rfl
  · obtain ⟨p, dx, w, h, fs, rfl, hp, hfs, k⟩ := h
    refine ⟨_, pss_cons (ps_fld (pv 0) (pv 1) rfl) (pss_cons (ps_fld (pv 0) (pv 2) rfl) (pss_one (ps_fld (pv 0) (pe_lst pa_nil) rfl))), ?_⟩
    have efs : ∀ l, putF "sheets" (.ref l) (putF "high" (.int (h : Int)) (putF "wide" (.int (w : Int)) fs)) = pF w h l := by
      intro l
      rcases hfs with rfl | ⟨w0, h0, l0, rfl⟩
      · exact pF_new
      · exact pF_put
    have l1 : fs.length < 1000 ∧ (putF "wide" (.int (w : Int)) fs).length < 1000 ∧ (putF "high" (.int (h : Int)) (putF "wide" (.int (w : Int)) fs)).length < 1000 := by
      rcases hfs with rfl | ⟨w0, h0, l0, rfl⟩
      · exact ⟨by decide, by show 1 < 1000; decide, by show (putF "high" (.int (h : Int)) ([("wide", .int (w : Int))] : List (Str × V))).length < 1000; rw [put_past (by decide +kernel)]; show 2 < 1000; decide⟩
      · unfold pF
        exact ⟨by show 3 < 1000; decide, by rw [put_here]; show 3 < 1000; decide, by rw [put_here, put_past (by decide +kernel), put_here]; show 3 < 1000; decide⟩
    refine ⟨_, rfl, _, rfl, p, CP, dx, _, rfl, hp, T.clP, T.nW, l1.1, ?_⟩
    refine ⟨_, rfl, _, rfl, p, CP, dx, _, rfl, upd_same, T.clP, T.nH, l1.2.1, ?_⟩
    refine ⟨Nat.zero_le _, fun l nl => ?_⟩
    have npl : p ≠ l := fun z => by rw [← z, upd_same] at nl; cases nl
    have hl : H l = none := by
      rw [upd_ne (fun z => npl z.symm), upd_ne (fun z => npl z.symm)] at nl
      exact nl
    refine ⟨_, rfl, p, CP, dx, _, rfl, by rw [upd_ne npl]; exact upd_same, T.clP, T.nS, l1.2.2, ?_⟩
    refine k _ l ?_ hl ?_ ?_
    · rw [upd_same]
      exact congrArg (fun q => some (HO.ins CP dx q)) (efs l)
    · rw [upd_ne (fun z => npl z.symm), upd_same]
    · intro b o e9 hb
      have hbx : b ≠ p := fun z => hb (by rw [z]; exact List.mem_singleton.mpr rfl)
      rw [upd_ne hbx, upd_ne (ne_of_none e9 hl), upd_ne hbx, upd_ne hbx]
      exact e9
theorem scPInit : FnScope ["self", "wide", "high"] ["self", "wide", "high"] (defScope sPInit) := ⟨rfl, rfl, rfl, by decide +kernel, rfl, by decide +kernel, by decide +kernel⟩
theorem ok_pinit {f : Addr} {fd : FuncData} (F : Fun K "__init__" "Page.__init__" sPInit f fd) (T : TxC K mg CP CS) (C1 : CalM P w K mg base CP "begin" 1 ["self", "wide", "high"] (spBegin CP)) : FnOk P w K mg base CX0 2 f fd ["self", "wide", "high"] (spBegin CP) := by
  refine F.ok scPInit (fun vs H Q E h => ?_) (fun cdv A outer s H vs Q E hr h => ?_)
  · obtain ⟨p, dx, w, h, fs, rfl, _⟩ := h
    rfl
  · obtain ⟨p, dx, w, h, fs, rfl, hp, hfs, k⟩ := h
    refine ⟨_, pss_one (ps_expr (pe_mth (pv 0) T.clP C1 hr (pa_cons (pv 1) (pa_cons (pv 2) pa_nil)))), ?_⟩
    have hlk : fs.lookup ("begin" : Str) = none := by
      rcases hfs with rfl | ⟨w0, h0, l0, rfl⟩
      · rfl
      · exact pF_no
    exact ⟨_, rfl, p, dx, fs, rfl, hp, hlk, _, rfl, _, rfl, p, dx, w, h, fs, rfl, hp, hfs, k⟩
theorem scSize : FnScope ["self"] ["self"] (defScope sSize) := ⟨rfl, rfl, rfl, by decide +kernel, rfl, by decide +kernel, by decide +kernel⟩
theorem ok_size {f : Addr} {fd : FuncData} (F : Fun K "size" "Page.size" sSize f fd) (T : TxC K mg CP CS) : FnOk P w K mg base CX0 1 f fd ["self"] (spSize CP) := by
  refine F.ok scSize (fun vs H Q E h => ?_) (fun cdv A outer s H vs Q E hr h => ?_)
  · obtain ⟨p, dx, l, w, h, rfl, _⟩ := h
    rfl
  · obtain ⟨p, dx, l, w, h, rfl, hp, w6, k⟩ := h
    refine ⟨_, pss_one (ps_ret (pe_op op_mul (pe_fld (pv 0) rfl) (pe_fld (pv 0) rfl))), ?_⟩
    refine ⟨_, rfl, p, CP, dx, _, _, rfl, hp, T.clP, T.nW, pF_wide, _, rfl, p, CP, dx, _, _, rfl, hp, T.clP, T.nH, pF_high, _, _, rfl, rfl, Or.inl ⟨by omega, by omega⟩, ?_⟩
    rw [Int.natCast_mul] at k
    exact k
theorem scHasS : FnScope ["self", "k"] ["self", "k"] (defScope sHasS) := ⟨rfl, rfl, rfl, by decide +kernel, rfl, by decide +kernel, by decide +kernel⟩
theorem ok_hasS {f : Addr} {fd : FuncData} (F : Fun K "has_sheet" "Page.has_sheet" sHasS f fd) (T : TxC K mg CP CS) (TE : TxE K mg) : FnOk P w K mg base CX0 1 f fd ["self", "k"] (spHasS K CP) := by
  refine F.ok scHasS (fun vs H Q E h => ?_) (fun cdv A outer s H vs Q E hr h => ?_)
  · obtain ⟨p, dx, l, w, h, k, xs, rfl, _⟩ := h
    rfl
  · obtain ⟨p, dx, l, w, h, k, xs, rfl, hp, hl, kk⟩ := h
    refine ⟨_, pss_one (ps_ret (pe_cmpR op_lt (pv 1) (pe_callB call_len_seq (by rfl) TE.len PySem.boot_len (pa_cons (pe_fld (pv 0) rfl) pa_nil)) (nomark _))), ?_⟩
    refine ⟨_, rfl, _, rfl, p, CP, dx, _, _, rfl, hp, T.clP, T.nS, pF_sheets, l, _, rfl, .inl (SqL.of hl), _, _, rfl, rfl, ?_⟩
    have e9 : decide ((k : Int) < (xs.length : Int)) = decide (k < xs.length) := decide_eq_decide.mpr (by omega)
    rw [← e9] at kk
    exact kk
theorem scHasC : FnScope ["self", "x", "y"] ["self", "x", "y"] (defScope sHasC) := ⟨rfl, rfl, rfl, by decide +kernel, rfl, by decide +kernel, by decide +kernel⟩
theorem ok_hasC {f : Addr} {fd : FuncData} (F : Fun K "has_cell" "Page.has_cell" sHasC f fd) (T : TxC K mg CP CS) : FnOk P w K mg base CX0 1 f fd ["self", "x", "y"] (spHasC CP) := by
  refine F.ok scHasC (fun vs H Q E h => ?_) (fun cdv A outer s H vs Q E hr h => ?_)
  · obtain ⟨p, dx, l, w, h, x, y, rfl, _⟩ := h
    rfl
  · obtain ⟨p, dx, l, w, h, x, y, rfl, hp, kk⟩ := h
    refine ⟨_, pss_one (ps_ret (pe_and (pe_cmpR op_lt (pv 1) (pe_fld (pv 0) rfl) (nomark _)) (pe_one (pe_cmpR op_lt (pv 2) (pe_fld (pv 0) rfl) (nomark _))))), ?_⟩
    refine ⟨_, rfl, _, rfl, p, CP, dx, _, _, rfl, hp, T.clP, T.nW, pF_wide, _, _, rfl, rfl, _, rfl, ?_⟩
    by_cases c : x < w
    · refine if_true_of (by simp; omega) ?_
      refine ⟨_, rfl, _, rfl, p, CP, dx, _, _, rfl, hp, T.clP, T.nH, pF_high, _, _, rfl, rfl, ?_⟩
      have e9 : decide ((y : Int) < (h : Int)) = decide (x < w ∧ y < h) := decide_eq_decide.mpr (by omega)
      rw [← e9] at kk
      exact kk
    · refine if_false_of (by simp; omega) ?_
      have e9 : false = decide (x < w ∧ y < h) := (decide_eq_false (fun z => c z.1)).symm
      rw [← e9] at kk
      exact kk
theorem scCellAt : FnScope ["self", "x", "y"] ["self", "x", "y"] (defScope sCellAt) := ⟨rfl, rfl, rfl, by decide +kernel, rfl, by decide +kernel, by decide +kernel⟩
theorem ok_cellAt {f : Addr} {fd : FuncData} (F : Fun K "cell_at" "Page.cell_at" sCellAt f fd) (T : TxC K mg CP CS) : FnOk P w K mg base CX0 1 f fd ["self", "x", "y"] (spCellAt CP) := by
  refine F.ok scCellAt (fun vs H Q E h => ?_) (fun cdv A outer s H vs Q E hr h => ?_)
  · obtain ⟨p, dx, l, w, h, x, y, rfl, _⟩ := h
    rfl
  · obtain ⟨p, dx, l, w, h, x, y, rfl, hp, w6, k⟩ := h
    refine ⟨_, pss_one (ps_ret (pe_op op_add (pe_op op_mul (pv 2) (pe_fld (pv 0) rfl)) (pv 1))), ?_⟩
    refine ⟨_, rfl, _, rfl, p, CP, dx, _, _, rfl, hp, T.clP, T.nW, pF_wide, _, _, rfl, rfl, Or.inr ⟨by omega, by omega⟩, _, rfl, _, _, rfl, rfl, ?_⟩
    rw [Int.natCast_add, Int.natCast_mul] at k
    exact k
end
end Kp
set_option Elab.async false
set_option linter.all false
set_option maxRecDepth 100000
set_option maxHeartbeats 2000000
namespace Kp
open PySem PySem.Spec PyProof.Rows L2
open Ie14 (Effect Sheet near moveFrom around gap inBox cellsAt)
section
variable {P : Program} {w : World} {K : PySem.W.Frag} {mg : Str → Option Value} {base : Heap} {CP CS : Addr}
theorem scInBox : FnScope ["self", "x", "y", "u", "v", "found", "row", "column"] ["self", "x", "y", "u", "v"] (defScope sInBox) := ⟨rfl, rfl, rfl, by decide +kernel, rfl, by decide +kernel, by decide +kernel⟩
theorem ok_inBox {f : Addr} {fd : FuncData} (F : Fun K "cells_in_box" "Page.cells_in_box" sInBox f fd) (TC : TxC K mg CP CS) (T : TxE K mg) (C1 : CalM P w K mg base CP "cell_at" 1 ["self", "x", "y"] (spCellAt CP)) : FnOk P w K mg base CX0 2 f fd ["self", "x", "y", "u", "v"] (spInBox CP) := by
  refine F.ok scInBox (fun vs H Q E h => ?_) (fun cdv A outer s H vs Q E hr h => ?_)
  · obtain ⟨p, dx, l, w, h, x, y, u, v, rfl, _⟩ := h
    rfl
  · obtain ⟨p, dx, l, w, h, x, y, u, v, rfl, hp, w0, w6, h6, bx, by_, bu, bv, k⟩ := h
    refine ⟨_, pss_cons (ps_set (i := 5) scInBox.nd rfl (Or.inl rfl) (pe_lst pa_nil))
      (pss_cons (ps_for PassesOwn.never rfl (pi_range2 (by rfl) T.range (pa_cons (pv 2) (pa_cons (pe_callB (call_min2 rfl) (by rfl) T.min (by decide +kernel) (pa_cons (pe_op op_add (pv 2) (pv 4)) (pa_cons (pe_fld (pv 0) rfl) pa_nil))) pa_nil))) (pg_name (i := 6) scInBox.nd rfl (Or.inl rfl))
        (pss_one (ps_for PassesOwn.never rfl (pi_range2 (by rfl) T.range (pa_cons (pv 1) (pa_cons (pe_callB (call_min2 rfl) (by rfl) T.min (by decide +kernel) (pa_cons (pe_op op_add (pv 1) (pv 3)) (pa_cons (pe_fld (pv 0) rfl) pa_nil))) pa_nil))) (pg_name (i := 7) scInBox.nd rfl (Or.inl rfl))
          (pss_one (ps_expr (pe_bm PySem.F.plainAttrs_list PySem.F.slot_list_append PySem.F.type_list_append mt_append (pv 5) (pa_cons (pe_mth (pv 0) TC.clP C1 hr (pa_cons (pv 7) (pa_cons (pv 6) pa_nil))) pa_nil)))))))
      (pss_one (ps_ret (pv 5)))), ?_⟩
    refine ⟨Nat.zero_le _, fun a na => ?_⟩
    have npa : p ≠ a := ne_of_none hp na
    have hp' : ∀ xs, upd H a (.lst xs) p = some (.ins CP dx (pF w h l)) := fun xs => by rw [upd_ne npa]; exact hp
    have emin : ∀ r t d : Nat, (if (t : Int) < (r : Int) + (d : Int) then (t : Int) else (r : Int) + (d : Int)) = ((min (r + d) t : Nat) : Int) := by intro r t d; split <;> omega
    have lx : (seg x (min (x + u) w)).length ≤ 6 := by rw [seg_length]; omega
    have ly : (seg y (min (y + v) h)).length ≤ 6 := by rw [seg_length]; omega
    have esz : sizeLine = 16777216 := sizeLine_eq
    refine ⟨_, rfl, _, rfl, _, rfl, _, _, rfl, rfl, _, rfl, p, CP, dx, _, _, rfl, hp' _, TC.clP, TC.nH, pF_high, _, _, rfl, ?_⟩
    refine ⟨(y : Int), ((min (y + v) h : Nat) : Int), ?_, ⟨by omega, by omega, by omega, by omega⟩, for_range (lo := (y : Int)) (n := (((min (y + v) h : Nat) : Int) - (y : Int)).toNat)
      (fun j σ H' => ∃ vy vx : Option V, σ = [some (.ref p), some (.int (x : Int)), some (.int (y : Int)), some (.int (u : Int)), some (.int (v : Int)), some (.ref a), vy, vx] ∧
        H' = upd H a (.lst (lN (grid w ((seg y (min (y + v) h)).take j) (seg x (min (x + u) w)))))) ⟨none, none, rfl, rfl⟩ ?_ ?_⟩
    · show [V.int (y : Int), V.int (if (h : Int) < (y : Int) + (v : Int) then (h : Int) else (y : Int) + (v : Int))] = _
      rw [emin]
    · rintro j σ H' hj ⟨vy, vx, rfl, rfl⟩
      have hj' : j < min (y + v) h - y := by omega
      refine ⟨_, rfl, _, rfl, _, rfl, _, _, rfl, rfl, _, rfl, p, CP, dx, _, _, rfl, hp' _, TC.clP, TC.nW, pF_wide, _, _, rfl, ?_⟩
      refine ⟨(x : Int), ((min (x + u) w : Nat) : Int), ?_, ⟨by omega, by omega, by omega, by omega⟩, for_range (lo := (x : Int)) (n := (((min (x + u) w : Nat) : Int) - (x : Int)).toNat)
        (fun m σ H' => ∃ vx : Option V, σ = [some (.ref p), some (.int (x : Int)), some (.int (y : Int)), some (.int (u : Int)), some (.int (v : Int)), some (.ref a), some (.int ((y + j : Nat) : Int)), vx] ∧
          H' = upd H a (.lst (lN (grid w ((seg y (min (y + v) h)).take j) (seg x (min (x + u) w)) ++ ((seg x (min (x + u) w)).take m).map fun x => (y + j) * w + x)))) ⟨vx, rfl, ?_⟩ ?_ ?_⟩
      · show [V.int (x : Int), V.int (if (w : Int) < (x : Int) + (u : Int) then (w : Int) else (x : Int) + (u : Int))] = _
        rw [emin]
      · simp
      · rintro m σ H' hm ⟨vx, rfl, rfl⟩
        have hm' : m < min (x + u) w - x := by omega
        refine ⟨_, rfl, .inl ⟨rfl, _, SqL.of upd_same⟩, _, rfl, p, dx, _, rfl, hp' _, pF_no, _, rfl, _, rfl, p, dx, l, w, h, x + m, y + j, rfl, hp' _, w6, a, _, _, rfl, rfl, upd_same, ?_, ?_⟩
        · have h1 : (grid w ((seg y (min (y + v) h)).take j) (seg x (min (x + u) w))).length ≤ 36 := by
            rw [grid_length]
            exact Nat.mul_le_mul (Nat.le_trans (List.length_take_le' _ _) ly) lx
          have h2 : (((seg x (min (x + u) w)).take m).map fun x => (y + j) * w + x).length ≤ 6 := by
            rw [List.length_map]
            exact Nat.le_trans (List.length_take_le' _ _) lx
          rw [lN_length, List.length_append, esz]
          omega
        · refine ⟨_, rfl, ?_⟩
          rw [upd_upd, seg_take hm', List.map_append, ← List.append_assoc]
          show upd H a (.lst (lN _ ++ [V.int (((y + j) * w + (x + m) : Nat) : Int)])) = upd H a (.lst (lN (_ ++ [(y + j) * w + (x + m)])))
          rw [lN_snoc]
      · rintro σ H' ⟨vx, rfl, rfl⟩
        refine ⟨_, vx, rfl, ?_⟩
        rw [seg_take hj', grid_snoc]
        have e8 : (seg x (min (x + u) w)).take ((((min (x + u) w : Nat) : Int) - (x : Int)).toNat) = seg x (min (x + u) w) := List.take_of_length_le (by rw [seg_length]; omega)
        rw [e8]
    · rintro σ H' ⟨vy, vx, rfl, rfl⟩
      refine ⟨_, rfl, ?_⟩
      have e8 : (seg y (min (y + v) h)).take ((((min (y + v) h : Nat) : Int) - (y : Int)).toNat) = seg y (min (y + v) h) := List.take_of_length_le (by rw [seg_length]; omega)
      rw [e8]
      refine k _ a (same_new na) na ?_
      rw [upd_same, box_eq w0]
      rfl
end
end Kp
set_option Elab.async false
set_option linter.all false
set_option maxRecDepth 100000
set_option maxHeartbeats 2000000
namespace Kp
open PySem PySem.Spec PyProof.Rows L2
open Ie14 (Effect Sheet near moveFrom around gap inBox cellsAt)
/-! ### addresses that stand apart -/
def Lay.all (q : Lay) : List Addr := [q.s, q.e, q.c, q.f]
structure Apart (p l : Addr) (qs : List Lay) : Prop where
  pl : p ≠ l
  p_ : ∀ q ∈ qs, ∀ u ∈ q.all, p ≠ u
  l_ : ∀ q ∈ qs, ∀ u ∈ q.all, l ≠ u
  in_ : ∀ q ∈ qs, q.all.Nodup
  two : ∀ (j k : Nat) (a b : Lay), qs[j]? = some a → qs[k]? = some b → j ≠ k → ∀ u ∈ a.all, ∀ v ∈ b.all, u ≠ v
theorem apart_of {p l : Addr} {qs : List Lay} (h : (foot p l qs).Nodup) : Apart p l qs := by
  unfold foot at h
  rw [List.nodup_cons, List.nodup_cons] at h
  obtain ⟨h1, h2, h3⟩ := h
  have h4 := List.pairwise_flatMap.mp h3
  refine ⟨fun z => h1 (by rw [z]; exact List.mem_cons_self ..), fun q hq u hu z => h1 (by rw [z]; exact List.mem_cons_of_mem _ (List.mem_flatMap.mpr ⟨q, hq, hu⟩)), fun q hq u hu z => h2 (by rw [z]; exact List.mem_flatMap.mpr ⟨q, hq, hu⟩), fun q hq => h4.1 q hq, ?_⟩
  intro j k a b ha hb hjk u hu v hv
  obtain ⟨lj, ej⟩ := List.getElem?_eq_some_iff.mp ha
  obtain ⟨lk, ek⟩ := List.getElem?_eq_some_iff.mp hb
  have h5 := List.pairwise_iff_getElem.mp h4.2
  rcases Nat.lt_or_gt_of_ne hjk with c | c
  · exact h5 j k lj lk c u (by rw [ej]; exact hu) v (by rw [ek]; exact hv)
  · exact fun z => h5 k j lk lj c v (by rw [ek]; exact hv) u (by rw [ej]; exact hu) z.symm
theorem mem_foot {p l : Addr} {qs : List Lay} {q : Lay} {u : Addr} (hq : q ∈ qs) (hu : u ∈ q.all) : u ∈ foot p l qs := List.mem_cons_of_mem _ (List.mem_cons_of_mem _ (List.mem_flatMap.mpr ⟨q, hq, hu⟩))
theorem ShAt.keep {CS : Addr} {H H' : Hp} {n : Nat} {q : Lay} {x : Sheet} (S : ShAt CS H n q x) (k : ∀ b o, b ∈ q.all → H b = some o → H' b = some o) : ShAt CS H' n q x := by
  obtain ⟨⟨dx, h1⟩, h2, h3, h4⟩ := S
  exact ⟨⟨dx, k _ _ (by simp [Lay.all]) h1⟩, k _ _ (by simp [Lay.all]) h2, k _ _ (by simp [Lay.all]) h3, k _ _ (by simp [Lay.all]) h4⟩
theorem PgAt.same {CP CS : Addr} {H H' : Hp} {p l : Addr} {qs : List Lay} {s : Ie14.St} (G : PgAt CP CS H p l qs s) (k : Same H H') : PgAt CP CS H' p l qs s := by
  obtain ⟨⟨dx, h1⟩, h2, h3, h4, h5⟩ := G
  exact ⟨⟨dx, k _ _ h1⟩, k _ _ h2, h3, fun j q x e1 e2 => (h4 j q x e1 e2).keep fun b o _ e => k b o e, h5⟩
/-- one sheet changed, all else of the page as it was -/
theorem PgAt.set {CP CS : Addr} {H H' : Hp} {p l : Addr} {qs : List Lay} {s : Ie14.St} {k : Nat} {q : Lay} (G : PgAt CP CS H p l qs s) (hq : qs[k]? = some q) (x' : Sheet) (hS : ShAt CS H' s.n q x')
    (keep : ∀ b o, H b = some o → b ∉ q.all → b ∈ foot p l qs → H' b = some o) : PgAt CP CS H' p l qs { s with sheets := s.sheets.set k x' } := by
  obtain ⟨⟨dx, h1⟩, h2, h3, h4, h5⟩ := G
  have A := apart_of h5
  have mq : q ∈ qs := List.mem_of_getElem? hq
  refine ⟨⟨dx, keep _ _ h1 (fun z => A.p_ q mq p z rfl) (List.mem_cons_self ..)⟩, keep _ _ h2 (fun z => A.l_ q mq l z rfl) (List.mem_cons_of_mem _ (List.mem_cons_self ..)), by show qs.length = (s.sheets.set k x').length; rw [List.length_set]; exact h3, fun j a y e1 e2 => ?_, h5⟩
  by_cases c : j = k
  · subst c
    rw [hq] at e1
    cases e1
    have e2 : (s.sheets.set j x')[j]? = some y := e2
    have lj : j < s.sheets.length := by rw [← h3]; exact (List.getElem?_eq_some_iff.mp hq).1
    rw [List.getElem?_set_self lj] at e2
    cases e2
    exact hS
  · have e2 : (s.sheets.set k x')[j]? = some y := e2
    rw [List.getElem?_set_ne (fun z => c z.symm)] at e2
    exact (h4 j a y e1 e2).keep fun b o hb e => keep b o e (fun z => A.two j k a q e1 hq c b hb b z rfl) (mem_foot (List.mem_of_getElem? e1) hb)
theorem PgAt.not_dict {CP CS : Addr} {H : Hp} {p l b : Addr} {qs : List Lay} {s : Ie14.St} (G : PgAt CP CS H p l qs s) (hb : b ∈ foot p l qs) (kvs : List (List Key × V)) : H b ≠ some (.dT kvs) := by
  intro e
  rcases List.mem_cons.mp hb with z | hb
  · obtain ⟨dx, h⟩ := G.ins
    rw [z, h] at e
    cases e
  · rcases List.mem_cons.mp hb with z | hb
    · rw [z, G.lst] at e
      cases e
    · obtain ⟨q, hq, hu⟩ := List.mem_flatMap.mp hb
      obtain ⟨k, hk⟩ := List.mem_iff_getElem?.mp hq
      have lk : k < s.sheets.length := by rw [← G.len]; exact (List.getElem?_eq_some_iff.mp hk).1
      obtain ⟨⟨dx, h1⟩, h2, h3, h4⟩ := G.at_ k q _ hk (List.getElem?_eq_getElem lk)
      rcases List.mem_cons.mp hu with z | hu
      · rw [z, h1] at e; cases e
      rcases List.mem_cons.mp hu with z | hu
      · rw [z, h2] at e; cases e
      rcases List.mem_cons.mp hu with z | hu
      · rw [z, h3] at e; cases e
      · rw [List.mem_singleton.mp hu, h4] at e; cases e
/-! ### the dict of what changed -/
def dKey (q : Nat × Nat) : List Key × V := ([Sum.inl (q.1 : Int), Sum.inl (q.2 : Int)], V.bl true)
theorem key_inj {a b : Nat × Nat} : (dKey a).1 = (dKey b).1 ↔ a = b := by
  obtain ⟨a1, a2⟩ := a
  obtain ⟨b1, b2⟩ := b
  constructor
  · intro h
    have h' : [(Sum.inl (a1 : Int) : Key), Sum.inl (a2 : Int)] = [Sum.inl (b1 : Int), Sum.inl (b2 : Int)] := h
    injection h' with h1 h2
    injection h2 with h2 _
    have e1 : (a1 : Int) = (b1 : Int) := Sum.inl.inj h1
    have e2 : (a2 : Int) = (b2 : Int) := Sum.inl.inj h2
    rw [Int.ofNat_inj.mp e1, Int.ofNat_inj.mp e2]
  · intro h
    rw [h]
theorem dk_val (q : Nat × Nat) : ∀ D : List (Nat × Nat), (valV (D.map dKey) (dKey q).1).isSome = decide (q ∈ D)
  | [] => rfl
  | a :: D => by
    rw [List.map_cons]
    by_cases c : (dKey a).1 = (dKey q).1
    · rw [valV_pos c]
      have e := key_inj.mp c
      subst e
      simp
    · rw [valV_neg c, dk_val q D]
      have e : ¬ q = a := fun z => c (by rw [z])
      simp [e]
theorem dk_put {q : Nat × Nat} {D : List (Nat × Nat)} (h : q ∉ D) : putK (D.map dKey) (dKey q).1 (V.bl true) = (D ++ [q]).map dKey := by
  have e : valV (D.map dKey) (dKey q).1 = none := by
    have z := dk_val q D
    rw [decide_eq_false h] at z
    exact Option.isNone_iff_eq_none.mp (by rw [← Option.not_isSome, z]; rfl)
  rw [putK_new _ e, List.map_append]
  rfl
theorem dkP_in {c : Ie14.Changes} {q : Nat × Nat} : decide (q ∈ dkP c) = (c.getD q.1 []).contains q.2 := by
  rw [Bool.eq_iff_iff, decide_eq_true_iff]
  rw [show q = (q.1, q.2) from rfl, dkP_mem]
  simp
/-! ### what a cell needs lies on the page -/
theorem move_lt {w h x y i : Nat} (hw : 0 < w) (hh : 0 < h) : moveFrom w h x y i < w * h := by
  unfold moveFrom
  exact cell_lt (Nat.mod_lt _ hw) (Nat.mod_lt _ hh)
theorem needs_in {e : Effect} {w h i : Nat} (hw : 0 < w) (hh : 0 < h) (hi : i < w * h) : ∀ q ∈ e.needs w h i, q.1 ∈ e.of ∧ q.2 < w * h := by
  intro q hq
  by_cases c3 : kindE e = 3
  · obtain ⟨a, rfl⟩ := kind3 c3
    obtain ⟨j, hj, rfl⟩ := List.mem_map.mp (show q ∈ (around w h i).map fun j => (a, j) from hq)
    exact ⟨by simp [Effect.of], List.mem_range.mp (List.mem_filter.mp hj).1⟩
  · by_cases c4 : kindE e = 4
    · obtain ⟨a, x, y, rfl⟩ := kind4 c4
      have e' : q = (a, moveFrom w h x y i) := List.mem_singleton.mp hq
      subst e'
      exact ⟨by simp [Effect.of], move_lt hw hh⟩
    · rw [kind_needs c3 c4] at hq
      obtain ⟨a, ha, rfl⟩ := List.mem_map.mp hq
      exact ⟨ha, hi⟩
theorem needs_len (e : Effect) {w h i : Nat} (hn : w * h ≤ 36) : (e.needs w h i).length ≤ 36 := by
  by_cases c3 : kindE e = 3
  · obtain ⟨a, rfl⟩ := kind3 c3
    show ((around w h i).map fun j => (a, j)).length ≤ 36
    rw [List.length_map]
    exact Nat.le_trans (around_len w h i) hn
  · by_cases c4 : kindE e = 4
    · obtain ⟨a, x, y, rfl⟩ := kind4 c4
      show 1 ≤ 36
      decide
    · rw [kind_needs c3 c4, List.length_map]
      exact Nat.le_trans (of_len e) (by decide)
/-- a page's size and numbers within their bounds -/
structure Wf0 (s : Ie14.St) : Prop where
  w0 : 0 < s.w
  w6 : s.w ≤ 6
  h0 : 0 < s.h
  h6 : s.h ≤ 6
  ten : s.sheets.length ≤ 10
  cells : ∀ x ∈ s.sheets, x.cells.length = s.n ∧ ∀ v ∈ x.cells, v ≤ 255
theorem Wf0.n36 {s : Ie14.St} (W : Wf0 s) : s.w * s.h ≤ 36 := Nat.mul_le_mul W.w6 W.h6
theorem cellsAt_of {l : List Sheet} {a i : Nat} {x : Sheet} (h : l[a]? = some x) : cellsAt l a i = x.cells.getD i 0 := by
  unfold cellsAt
  rw [h]
  rfl
theorem cellsAt_le {s : Ie14.St} (W : Wf0 s) (a i : Nat) : cellsAt s.sheets a i ≤ 255 := by
  unfold cellsAt
  cases e : s.sheets[a]? with
  | none => exact Nat.zero_le _
  | some x =>
    show x.cells.getD i 0 ≤ 255
    rw [List.getD_eq_getElem?_getD]
    cases e2 : x.cells[i]? with
    | none => exact Nat.zero_le _
    | some v => exact (W.cells x (List.mem_of_getElem? e)).2 v (List.mem_of_getElem? e2)
end Kp
set_option Elab.async false
set_option linter.all false
set_option maxRecDepth 100000
set_option maxHeartbeats 2000000
namespace Kp
open PySem PySem.Spec PyProof.Rows L2
open Ie14 (Effect Sheet near moveFrom around gap inBox cellsAt)
abbrev sTch : Stmt := inClass cPage 11
abbrev sNumBy : Stmt := inClass cPage 12
abbrev sPut : Stmt := inClass cPage 13
def spTch (K : PySem.W.Frag) (CP : Addr) : Sp := fun vs H Q _ => ∃ (p dx l a d : Addr) (w h i : Nat) (e : Effect) (D : List (Nat × Nat)), vs = [.ref p, .ref a, .int (i : Int), .ref d] ∧ H p = some (.ins CP dx (pF w h l)) ∧ SqL K H a (lN (encE e)) ∧
  0 < w ∧ w ≤ 6 ∧ 0 < h ∧ h ≤ 6 ∧ i < w * h ∧ H d = some (.dT (D.map dKey)) ∧ ∀ H', Same H H' → Q (.bl ((e.needs w h i).any fun q => decide (q ∈ D))) H'
def spNumBy (K : PySem.W.Frag) (CP CS : Addr) : Sp := fun vs H Q _ => ∃ (p l a : Addr) (qs : List Lay) (s : Ie14.St) (i : Nat) (e : Effect), vs = [.ref p, .ref a, .int (i : Int)] ∧ PgAt CP CS H p l qs s ∧ Wf0 s ∧ SqL K H a (lN (encE e)) ∧ kindE e ≠ 0 ∧
  (∀ b ∈ e.of, b < s.sheets.length) ∧ i < s.w * s.h ∧ ∀ H', Same H H' → Q (.int ((e.value s.w s.h i (cellsAt s.sheets) : Nat) : Int)) H'
def spPut (K : PySem.W.Frag) (CP CS : Addr) : Sp := fun vs H Q _ => ∃ (p l d : Addr) (qs : List Lay) (s : Ie14.St) (k i v : Nat) (x : Sheet) (D : List (Nat × Nat)), vs = [.ref p, .int (k : Int), .int (i : Int), .int (v : Int), .ref d] ∧ PgAt CP CS H p l qs s ∧ s.sheets[k]? = some x ∧ i < s.n ∧ x.cells.length = s.n ∧
  H d = some (.dT (D.map dKey)) ∧ D.length < 1000000 ∧ (k, i) ∉ D ∧
  ∀ H', PgAt CP CS H' p l qs { s with sheets := s.sheets.set k (putS s.n x i v) } → H' d = some (.dT ((D ++ (putC x i v).map fun i => (k, i)).map dKey)) → Only H H' (d :: foot p l qs) → Q .non H'
section
variable {P : Program} {w : World} {K : PySem.W.Frag} {mg : Str → Option Value} {base : Heap} {CP CS : Addr}
theorem scTch : FnScope ["self", "effect", "cell", "changed", "needed"] ["self", "effect", "cell", "changed"] (defScope sTch) := ⟨rfl, rfl, rfl, by decide +kernel, rfl, by decide +kernel, by decide +kernel⟩
theorem ok_tch {f : Addr} {fd : FuncData} (F : Fun K "is_touched" "Page.is_touched" sTch f fd) (TC : TxC K mg CP CS) (C1 : Cal P w K mg base "needed_cells" 2 ["effect", "cell", "wide", "high"] (spNeeds K)) : FnOk P w K mg base CX0 3 f fd ["self", "effect", "cell", "changed"] (spTch K CP) := by
  refine F.ok scTch (fun vs H Q E h => ?_) (fun cdv A outer s H vs Q E hr h => ?_)
  · obtain ⟨p, dx, l, a, d, w, h, i, e, D, rfl, _⟩ := h
    rfl
  · obtain ⟨p, dx, l, a, d, w, h, i, e, D, rfl, hp, ha, w0, w6, h0, h6, hi, hd, k⟩ := h
    have hu := hu_of hr
    refine ⟨_, pss_cons (ps_for PassesOwn.never rfl (pi_list (pe_cal C1 hr rfl (pa_cons (pv 1) (pa_cons (pv 2) (pa_cons (pe_fld (pv 0) rfl) (pa_cons (pe_fld (pv 0) rfl) pa_nil)))))) (pg_name (i := 4) scTch.nd rfl (Or.inl rfl))
        (pss_one (ps_if (pt_cmp (pc_din hu (pv 4) (pv 3))) (pss_one (ps_ret pe_bl)) pss_nil)))
      (pss_one (ps_ret pe_bl)), ?_⟩
    refine ⟨_, rfl, _, rfl, _, rfl, p, CP, dx, _, _, rfl, hp, TC.clP, TC.nW, pF_wide, _, rfl, p, CP, dx, _, _, rfl, hp, TC.clP, TC.nH, pF_high, a, e, i, w, h, rfl, ha, w0, w6, h0, h6, hi, fun H1 b ts s1 nb hb T => ?_⟩
    refine ⟨b, rfl, ⟨_, SqL.of hb⟩, for_list (K := K) (a := b) (xs := ts.map V.ref) (fun j σ H' => ∃ v : Option V, H' = H1 ∧ σ = [some (.ref p), some (.ref a), some (.int (i : Int)), some (.ref d), v] ∧ ((e.needs w h i).take j).any (fun q => decide (q ∈ D)) = false)
      ⟨none, rfl, rfl, rfl⟩ (fun j σ H' _ ⟨_, e9, _⟩ => by rw [e9]; exact SqL.of hb) ?_ ?_⟩
    · rintro j y σ H' hy ⟨v, rfl, rfl, hn⟩
      rw [List.getElem?_map] at hy
      obtain ⟨t, ht, rfl⟩ := Option.map_eq_some_iff.mp hy
      obtain ⟨q, hq, hqt⟩ := T.2 j t ht
      refine ⟨_, rfl, _, rfl, d, _, rfl, DGet.t (k := (dKey q).1) (s1 _ _ hd) hqt, _, rfl, ?_⟩
      rw [dk_val]
      have e9 : (e.needs w h i).take (j + 1) = (e.needs w h i).take j ++ [q] := by rw [List.take_add_one, hq]; rfl
      by_cases c : q ∈ D
      · refine if_true_of (decide_eq_true c) ?_
        have e8 : ((e.needs w h i).any fun q => decide (q ∈ D)) = true := List.any_eq_true.mpr ⟨q, List.mem_of_getElem? hq, decide_eq_true c⟩
        rw [e8] at k
        exact k _ s1
      · refine if_false_of (decide_eq_false c) ⟨some (.ref t), rfl, rfl, ?_⟩
        rw [e9, List.any_append, hn]
        simp [c]
    · rintro σ H' ⟨v, rfl, rfl, hn⟩
      rw [List.length_map, T.1, List.take_length] at hn
      rw [hn] at k
      exact k _ s1
theorem scNumBy : FnScope ["self", "effect", "cell", "numbers", "told", "place", "sheet"] ["self", "effect", "cell"] (defScope sNumBy) := ⟨rfl, rfl, rfl, by decide +kernel, rfl, by decide +kernel, by decide +kernel⟩
theorem ok_numBy {f : Addr} {fd : FuncData} (F : Fun K "number_by" "Page.number_by" sNumBy f fd) (TC : TxC K mg CP CS) (C1 : Cal P w K mg base "needed_cells" 2 ["effect", "cell", "wide", "high"] (spNeeds K)) (C2 : Cal P w K mg base "number_made" 3 ["effect", "numbers"] (spMade K)) :
    FnOk P w K mg base CX0 4 f fd ["self", "effect", "cell"] (spNumBy K CP CS) := by
  refine F.ok scNumBy (fun vs H Q E h => ?_) (fun cdv A outer s H vs Q E hr h => ?_)
  · obtain ⟨p, l, a, qs, s, i, e, rfl, _⟩ := h
    rfl
  · obtain ⟨p, l, a, qs, st, i, e, rfl, G, W, ha, hk, hof, hi, k⟩ := h
    have hr2 : Room 2 _ := hr.mono (by decide)
    refine ⟨_, pss_cons (ps_set (i := 3) scNumBy.nd rfl (Or.inl rfl) (pe_lst pa_nil))
      (pss_cons (ps_for PassesOwn.never rfl (pi_list (pe_cal C1 hr2 rfl (pa_cons (pv 1) (pa_cons (pv 2) (pa_cons (pe_fld (pv 0) rfl) (pa_cons (pe_fld (pv 0) rfl) pa_nil)))))) (pg_tup rfl (pgs_cons (pg_name (i := 4) scNumBy.nd rfl (Or.inl rfl)) (pgs_cons (pg_name (i := 5) scNumBy.nd rfl (Or.inl rfl)) pgs_nil)))
        (pss_cons (ps_set (i := 6) scNumBy.nd rfl (Or.inl rfl) (pe_ix ix_list (pe_fld (pv 0) rfl) (pv 4) (fun _ _ => rfl)))
        (pss_one (ps_expr (pe_bm PySem.F.plainAttrs_list PySem.F.slot_list_append PySem.F.type_list_append mt_append (pv 3) (pa_cons (pe_ix ix_list (pe_fld (pv 6) rfl) (pv 5) (fun _ _ => rfl)) pa_nil))))))
      (pss_one (ps_ret (pe_cal C2 hr rfl (pa_cons (pv 1) (pa_cons (pv 3) pa_nil)))))), ?_⟩
    refine ⟨Nat.zero_le _, fun b nb => ?_⟩
    have s0 : Same H (upd H b (.lst [])) := same_new nb
    obtain ⟨dx, hp⟩ := G.ins
    refine ⟨_, rfl, _, rfl, _, rfl, p, CP, dx, _, _, rfl, s0 _ _ hp, TC.clP, TC.nW, pF_wide, _, rfl, p, CP, dx, _, _, rfl, s0 _ _ hp, TC.clP, TC.nH, pF_high, a, e, i, st.w, st.h, rfl, s0.seq ha, W.w0, W.w6, W.h0, W.h6, hi, fun H1 c ts s1 nc hc T => ?_⟩
    have hb1 : H1 b = some (.lst []) := s1 _ _ upd_same
    have keep : ∀ xs, Same H (upd H1 b (.lst xs)) := fun xs u o e9 => by
      rw [upd_ne (ne_of_none e9 nb)]
      exact s1 _ _ (s0 _ _ e9)
    have keep1 : ∀ xs u o, H1 u = some o → u ≠ b → upd H1 b (.lst xs) u = some o := fun xs u o e9 hub => by
      rw [upd_ne hub]
      exact e9
    have hcb : c ≠ b := fun z => by rw [z, upd_same] at nc; cases nc
    have esz : sizeLine = 16777216 := sizeLine_eq
    have hln := needs_len e (i := i) W.n36
    refine ⟨c, rfl, ⟨_, SqL.of hc⟩, for_list (K := K) (a := c) (xs := ts.map V.ref) (fun j σ H' => ∃ v4 v5 v6 : Option V, σ = [some (.ref p), some (.ref a), some (.int (i : Int)), some (.ref b), v4, v5, v6] ∧ H' = upd H1 b (.lst (lN (((e.needs st.w st.h i).take j).map fun q => cellsAt st.sheets q.1 q.2))))
      ⟨none, none, none, rfl, ?_⟩ (fun j σ H' _ ⟨_, _, _, _, e9⟩ => by rw [e9]; exact SqL.of (keep1 _ _ _ hc hcb)) ?_ ?_⟩
    · funext u
      unfold upd
      split
      · rename_i z
        rw [z]
        exact hb1
      · rfl
    · rintro j y σ H' hy ⟨v4, v5, v6, rfl, rfl⟩
      rw [List.getElem?_map] at hy
      obtain ⟨t, ht, rfl⟩ := Option.map_eq_some_iff.mp hy
      obtain ⟨q, hq, hqt⟩ := T.2 j t ht
      obtain ⟨n1, n2⟩ := needs_in W.w0 W.h0 hi q (List.mem_of_getElem? hq)
      have lt1 : q.1 < st.sheets.length := hof _ n1
      obtain ⟨x, hx⟩ : ∃ x, st.sheets[q.1]? = some x := ⟨_, List.getElem?_eq_getElem lt1⟩
      obtain ⟨lay, hlay⟩ : ∃ lay, qs[q.1]? = some lay := ⟨_, List.getElem?_eq_getElem (by rw [G.len]; exact lt1)⟩
      obtain ⟨⟨dx2, g1⟩, g2, g3, g4⟩ := G.at_ q.1 lay x hlay hx
      have lx : x.cells.length = st.n := (W.cells x (List.mem_of_getElem? hx)).1
      obtain ⟨z, hz⟩ : ∃ z, x.cells[q.2]? = some z := ⟨_, List.getElem?_eq_getElem (by rw [lx]; exact n2)⟩
      have htb : t ≠ b := ne_of hqt hb1 (by intro z; cases z)
      refine ⟨t, _, rfl, SqT.of (keep1 _ _ _ hqt htb), rfl, _, _, rfl, _, _, rfl, rfl, ?_⟩
      refine ⟨_, rfl, p, CP, dx, _, _, rfl, keep _ _ _ hp, TC.clP, TC.nS, pF_sheets, _, rfl, l, _, _, _, rfl, rfl, SqL.of (keep _ _ _ G.lst), atI_nat (j := q.1) (v := V.ref lay.s) (by rw [List.getElem?_map, hlay]; rfl), ?_⟩
      refine ⟨_, rfl, .inl ⟨rfl, _, SqL.of upd_same⟩, _, rfl, lay.s, CS, dx2, _, _, rfl, keep _ _ _ g1, TC.clS, TC.nN, sF_numbers, _, rfl, lay.c, _, _, _, rfl, rfl, SqL.of (keep _ _ _ g3), atI_nat (j := q.2) (v := .int (z : Int)) (by rw [lN_get, hz]; rfl), b, _, _, rfl, rfl, upd_same, ?_, ?_⟩
      · rw [lN_length, List.length_map, List.length_take, esz]
        omega
      · refine ⟨_, _, _, rfl, ?_⟩
        rw [upd_upd, List.take_add_one, hq, List.map_append]
        show upd H1 b (.lst (lN _ ++ [V.int (z : Int)])) = upd H1 b (.lst (lN (_ ++ [cellsAt st.sheets q.1 q.2])))
        rw [lN_snoc, cellsAt_of hx, List.getD_eq_getElem?_getD, hz]
        rfl
    · rintro σ H' ⟨v4, v5, v6, rfl, rfl⟩
      rw [List.length_map, T.1, List.take_length]
      refine ⟨_, rfl, _, rfl, a, b, e, st.w, st.h, i, cellsAt st.sheets, rfl, (keep _).seq ha, SqL.of upd_same, hk, fun q _ => cellsAt_le W _ _, W.w0, hi, W.n36, ?_⟩
      exact k _ (keep _)
theorem frs_set {n i : Nat} {old : List Nat} (hi : i < n) : (frs n old).set i (V.bl true) = frs n (Ie14.news old [i] n) := by
  unfold frs
  apply List.ext_getElem?
  intro j
  by_cases c : i = j
  · subst c
    rw [List.getElem?_set_self (by simpa using hi)]
    simp [hi, Ie14.news]
  · rw [List.getElem?_set_ne c]
    by_cases hj : j < n
    · have c' : ¬ j = i := fun z => c z.symm
      have e : (Ie14.news old [i] n).contains j = old.contains j := by
        rw [Bool.eq_iff_iff]
        simp [Ie14.news, hj, c']
      simp only [List.getElem?_map, List.getElem?_range hj, Option.map_some, e]
    · rw [List.getElem?_eq_none (by simp; omega), List.getElem?_eq_none (by simp; omega)]
theorem scPut : FnScope ["self", "k", "cell", "number", "changed", "sheet"] ["self", "k", "cell", "number", "changed"] (defScope sPut) := ⟨rfl, rfl, rfl, by decide +kernel, rfl, by decide +kernel, by decide +kernel⟩
theorem ok_put {f : Addr} {fd : FuncData} (F : Fun K "put" "Page.put" sPut f fd) (TC : TxC K mg CP CS) : FnOk P w K mg base CX0 1 f fd ["self", "k", "cell", "number", "changed"] (spPut K CP CS) := by
  refine F.ok scPut (fun vs H Q E h => ?_) (fun cdv A outer s H vs Q E hr h => ?_)
  · obtain ⟨p, l, d, qs, s, k, i, v, x, D, rfl, _⟩ := h
    rfl
  · obtain ⟨p, l, d, qs, st, k, i, v, x, D, rfl, G, hx, hi, lx, hd, hD, hnew, kk⟩ := h
    have hu := hu_of hr
    refine ⟨_, pss_cons (ps_set (i := 5) scPut.nd rfl (Or.inl rfl) (pe_ix ix_list (pe_fld (pv 0) rfl) (pv 1) (fun _ _ => rfl)))
      (pss_one (ps_if (pt_cmpR op_ne (pe_ix ix_list (pe_fld (pv 5) rfl) (pv 2) (fun _ _ => rfl)) (pv 3) (nomark _))
        (pss_cons (ps_asg (pv 3) (pg_sub (pe_fld (pv 5) rfl) (pv 2) set_list))
        (pss_cons (ps_asg pe_bl (pg_sub (pe_fld (pv 5) rfl) (pv 2) set_list))
        (pss_one (ps_dput hu (pv 4) (pe_tup (pa_cons (pv 1) (pa_cons (pv 2) pa_nil))) pe_bl rfl)))) pss_nil)), ?_⟩
    have lt1 : k < st.sheets.length := (List.getElem?_eq_some_iff.mp hx).1
    obtain ⟨q, hq⟩ : ∃ q, qs[k]? = some q := ⟨_, List.getElem?_eq_getElem (by rw [G.len]; exact lt1)⟩
    obtain ⟨⟨dx2, g1⟩, g2, g3, g4⟩ := G.at_ k q x hq hx
    obtain ⟨z, hz⟩ : ∃ z, x.cells[i]? = some z := ⟨_, List.getElem?_eq_getElem (by rw [lx]; exact hi)⟩
    have ez : x.cells.getD i 0 = z := by rw [List.getD_eq_getElem?_getD, hz]; rfl
    obtain ⟨dx, hp⟩ := G.ins
    refine ⟨_, rfl, p, CP, dx, _, _, rfl, hp, TC.clP, TC.nS, pF_sheets, _, rfl, l, _, _, _, rfl, rfl, SqL.of G.lst, atI_nat (j := k) (v := V.ref q.s) (by rw [List.getElem?_map, hq]; rfl), ?_⟩
    refine ⟨_, rfl, q.s, CS, dx2, _, _, rfl, g1, TC.clS, TC.nN, sF_numbers, _, rfl, q.c, _, _, _, rfl, rfl, SqL.of g3, atI_nat (j := i) (v := .int (z : Int)) (by rw [lN_get, hz]; rfl), _, rfl, rfl, _, rfl, ?_⟩
    by_cases c : z = v
    · refine if_false_of (by rw [c]; simp) ?_
      have e1 : putS st.n x i v = x := if_pos (ez.trans c)
      have e2 : putC x i v = [] := if_pos (ez.trans c)
      rw [e1, e2] at kk
      have e3 : st.sheets.set k x = st.sheets := by
        obtain ⟨_, e⟩ := List.getElem?_eq_some_iff.mp hx
        rw [← e]
        exact List.set_getElem_self lt1
      rw [e3] at kk
      refine kk H G ?_ Only.refl
      rw [hd]
      simp
    · refine if_true_of (by simp; omega) ?_
      have e1 : putS st.n x i v = ⟨x.effect, x.cells.set i v, Ie14.news x.news [i] st.n⟩ := if_neg (fun y => c (ez.symm.trans y))
      have e2 : putC x i v = [i] := if_neg (fun y => c (ez.symm.trans y))
      rw [e1, e2] at kk
      have A := apart_of G.nd
      have mq : q ∈ qs := List.mem_of_getElem? hq
      have nd := A.in_ q mq
      have hnd : q.s ≠ q.c ∧ q.s ≠ q.f ∧ q.e ≠ q.c ∧ q.e ≠ q.f ∧ q.c ≠ q.f := by
        simp [Lay.all] at nd
        obtain ⟨⟨_, b, c⟩, ⟨d, e⟩, f⟩ := nd
        exact ⟨b, c, d, e, f⟩
      obtain ⟨nsc, nsf, nec, nef, ncf⟩ := hnd
      have ixc : ixN (lN x.cells).length (i : Int) = some i := by
        unfold ixN
        rw [lN_length, lx, if_pos (by omega), if_pos (by omega)]
        rfl
      have ixf : ixN (frs st.n x.news).length (i : Int) = some i := by
        unfold ixN frs
        rw [List.length_map, List.length_range, if_pos (by omega), if_pos (by omega)]
        rfl
      refine ⟨_, rfl, _, rfl, q.s, CS, dx2, _, _, rfl, g1, TC.clS, TC.nN, sF_numbers, _, rfl, q.c, _, _, i, rfl, rfl, g3, ixc, ?_⟩
      refine ⟨_, rfl, q.s, CS, dx2, _, _, rfl, by rw [upd_ne nsc]; exact g1, TC.clS, TC.nF, sF_fresh, _, rfl, q.f, _, _, i, rfl, rfl, by rw [upd_ne (fun y => ncf y.symm)]; exact g4, ixf, ?_⟩
      refine ⟨_, rfl, _, rfl, _, rfl, (by show 2 ≤ sizeLine; decide), fun t nt => ?_⟩
      have esz : sizeLine = 16777216 := sizeLine_eq
      have ndc : d ≠ q.c := ne_of hd g3 (by intro y; cases y)
      have ndf : d ≠ q.f := ne_of hd g4 (by intro y; cases y)
      have hd2 : upd (upd H q.c (.lst ((lN x.cells).set i (.int (v : Int))))) q.f (.lst ((frs st.n x.news).set i (.bl true))) d = some (.dT (D.map dKey)) := by rw [upd_ne ndf, upd_ne ndc]; exact hd
      have ndt : d ≠ t := ne_of_none hd2 nt
      refine ⟨d, _, rfl, DPut.t (k := (dKey (k, i)).1) (by rw [upd_ne ndt]; exact hd2) upd_same (by rw [List.length_map, esz]; omega), ?_⟩
      rw [dk_put hnew]
      have ntH : H t = none := by
        have c1 : t ≠ q.f := fun y => by rw [y, upd_same] at nt; cases nt
        rw [upd_ne c1] at nt
        have c2 : t ≠ q.c := fun y => by rw [y, upd_same] at nt; cases nt
        rw [upd_ne c2] at nt
        exact nt
      have nsd : q.s ≠ d := ne_of g1 hd (by intro y; cases y)
      have ned : q.e ≠ d := ne_of g2 hd (by intro y; cases y)
      have nq : ∀ u o, H u = some o → u ≠ t := fun u o e9 => ne_of_none e9 ntH
      refine kk _ (G.set hq _ ?_ ?_) (by rw [upd_same]; rfl) ?_
      · refine ⟨⟨dx2, ?_⟩, ?_, ?_, ?_⟩
        · rw [upd_ne nsd, upd_ne (nq _ _ g1), upd_ne nsf, upd_ne nsc]
          exact g1
        · rw [upd_ne ned, upd_ne (nq _ _ g2), upd_ne nef, upd_ne nec]
          exact g2
        · rw [upd_ne (fun y => ndc y.symm), upd_ne (nq _ _ g3), upd_ne ncf, upd_same]
          show some (HO.lst ((lN x.cells).set i (.int (v : Int)))) = some (HO.lst (lN (x.cells.set i v)))
          unfold lN
          rw [List.map_set]
        · rw [upd_ne (fun y => ndf y.symm), upd_ne (nq _ _ g4), upd_same]
          exact congrArg (fun y => some (HO.lst y)) (frs_set hi)
      · intro b o e9 hb hbf
        have b1 : b ≠ q.c := fun y => hb (by rw [y]; simp [Lay.all])
        have b2 : b ≠ q.f := fun y => hb (by rw [y]; simp [Lay.all])
        have b3 : b ≠ d := fun y => G.not_dict hbf _ (by rw [y]; exact hd)
        rw [upd_ne b3, upd_ne (nq _ _ e9), upd_ne b2, upd_ne b1]
        exact e9
      · intro b o e9 hb
        have b0 : b ≠ d := fun y => hb (by rw [y]; exact List.mem_cons_self ..)
        have b1 : b ≠ q.c := fun y => hb (by rw [y]; exact List.mem_cons_of_mem _ (mem_foot mq (by simp [Lay.all])))
        have b2 : b ≠ q.f := fun y => hb (by rw [y]; exact List.mem_cons_of_mem _ (mem_foot mq (by simp [Lay.all])))
        rw [upd_ne b0, upd_ne (nq _ _ e9), upd_ne b2, upd_ne b1]
        exact e9
end
end Kp
set_option Elab.async false
set_option linter.all false
set_option maxRecDepth 100000
set_option maxHeartbeats 2000000
namespace Kp
open PySem PySem.Spec PyProof.Rows L2
open Ie14 (Effect Sheet near moveFrom around gap inBox cellsAt touched onFrom)
/-! ### a value by what it needs -/
theorem value_congr {e : Effect} {w h i : Nat} {v v' : Nat → Nat → Nat} (hh : ∀ q ∈ e.needs w h i, v q.1 q.2 = v' q.1 q.2) : e.value w h i v = e.value w h i v' := by
  cases e with
  | painted => rfl
  | more a k => have := hh (a, i) (by simp [Effect.needs, Effect.of]); simp only [Effect.value]; rw [this]
  | turned a => have := hh (a, i) (by simp [Effect.needs, Effect.of]); simp only [Effect.value]; rw [this]
  | soft a =>
    have e : (around w h i).map (v a) = (around w h i).map (v' a) := List.map_congr_left fun j hj => hh (a, j) (List.mem_map.mpr ⟨j, hj, rfl⟩)
    simp only [Effect.value]
    rw [e]
  | moved a x y => have := hh (a, moveFrom w h x y i) (by simp [Effect.needs]); simp only [Effect.value]; exact this
  | bright a t => have := hh (a, i) (by simp [Effect.needs, Effect.of]); simp only [Effect.value]; rw [this]
  | greater a b => have h1 := hh (a, i) (by simp [Effect.needs, Effect.of]); have h2 := hh (b, i) (by simp [Effect.needs, Effect.of]); simp only [Effect.value]; rw [h1, h2]
  | mean a b => have h1 := hh (a, i) (by simp [Effect.needs, Effect.of]); have h2 := hh (b, i) (by simp [Effect.needs, Effect.of]); simp only [Effect.value]; rw [h1, h2]
  | apart a b => have h1 := hh (a, i) (by simp [Effect.needs, Effect.of]); have h2 := hh (b, i) (by simp [Effect.needs, Effect.of]); simp only [Effect.value]; rw [h1, h2]
  | masked a b m => have h1 := hh (a, i) (by simp [Effect.needs, Effect.of]); have h2 := hh (b, i) (by simp [Effect.needs, Effect.of]); have h3 := hh (m, i) (by simp [Effect.needs, Effect.of]); simp only [Effect.value]; rw [h1, h2, h3]
theorem sum_le : ∀ (l : List Nat), (∀ x ∈ l, x ≤ 255) → Ie14.sum l ≤ 255 * l.length
  | [], _ => Nat.le_refl _
  | x :: l, h => by
    have ih := sum_le l fun y hy => h y (List.mem_cons_of_mem _ hy)
    have hx := h x (List.mem_cons_self ..)
    unfold Ie14.sum at ih ⊢
    rw [List.foldl_cons, sum_acc, List.length_cons]
    omega
theorem near_le {s d : Nat} (h : s ≤ 255 * d) : near s d ≤ 255 := by
  unfold near
  cases d with
  | zero => simp
  | succ d =>
    have : (2 * s + (d + 1)) / (2 * (d + 1)) < 256 := Nat.div_lt_of_lt_mul (by omega)
    omega
theorem value_le {e : Effect} {w h i : Nat} {v : Nat → Nat → Nat} (hv : ∀ a j, v a j ≤ 255) : e.value w h i v ≤ 255 := by
  cases e with
  | painted => exact Nat.zero_le _
  | more a k => exact Nat.min_le_left _ _
  | turned a => exact Nat.sub_le _ _
  | soft a =>
    refine near_le ?_
    have := sum_le ((around w h i).map (v a)) (fun x hx => by obtain ⟨j, _, rfl⟩ := List.mem_map.mp hx; exact hv a j)
    rw [List.length_map] at this
    exact this
  | moved a x y => exact hv _ _
  | bright a t => simp only [Effect.value]; split <;> decide
  | greater a b => exact Nat.max_le.mpr ⟨hv _ _, hv _ _⟩
  | mean a b =>
    refine near_le ?_
    have h1 := hv a i
    have h2 := hv b i
    omega
  | apart a b =>
    have h1 := hv a i
    have h2 := hv b i
    show gap _ _ ≤ 255
    unfold gap
    omega
  | masked a b m => simp only [Effect.value]; split <;> exact hv _ _
/-! ### cells set -/
theorem setL_effect {n : Nat} {x : Sheet} {val : Nat → Nat} {L : List Nat} : (setL n x val L).1.effect = x.effect := rfl
theorem setL_len {n : Nat} {x : Sheet} {val : Nat → Nat} {L : List Nat} : (setL n x val L).1.cells.length = x.cells.length := by
  show (x.cells.zipIdx.map _).length = _
  simp
theorem setL_le {n : Nat} {x : Sheet} {val : Nat → Nat} {L : List Nat} (hx : ∀ v ∈ x.cells, v ≤ 255) (hv : ∀ i, val i ≤ 255) : ∀ v ∈ (setL n x val L).1.cells, v ≤ 255 := by
  intro v h
  obtain ⟨q, hq, rfl⟩ := List.mem_map.mp (show v ∈ x.cells.zipIdx.map _ from h)
  split
  · exact hv _
  · have := List.mem_zipIdx_iff_getElem?.mp hq
    exact hx _ (List.mem_of_getElem? this)
theorem setL_sub {n : Nat} {x : Sheet} {val : Nat → Nat} {L : List Nat} : ∀ i ∈ (setL n x val L).2, i ∈ L := fun i h => (List.mem_filter.mp h).1
theorem setL_clen {n : Nat} {x : Sheet} {val : Nat → Nat} {L : List Nat} : (setL n x val L).2.length ≤ L.length := List.length_filter_le _ _
theorem setL_news {n : Nat} {x : Sheet} {val : Nat → Nat} {L : List Nat} : (setL n x val L).1.news = (List.range n).filter fun i => (setL n x val L).1.news.contains i := by
  show Ie14.news x.news (setL n x val L).2 n = (List.range n).filter fun i => (Ie14.news x.news (setL n x val L).2 n).contains i
  unfold Ie14.news
  refine List.filter_congr fun j hj => ?_
  have hj' := List.mem_range.mp hj
  rw [Bool.eq_iff_iff]
  simp [hj']
/-- a sheet's effect and marks in form -/
structure WfS (n k : Nat) (x : Sheet) : Prop where
  of : ∀ a ∈ x.effect.of, a < k
  ok : okE x.effect
  nw : x.news = (List.range n).filter fun i => x.news.contains i
structure Wf (s : Ie14.St) : Prop extends Wf0 s where
  sh : ∀ (k : Nat) (x : Sheet), s.sheets[k]? = some x → WfS s.n k x
/-! ### the state while a change goes on -/
structure OnI (n j : Nat) (z : List Sheet × Ie14.Changes × Nat) : Prop where
  len : z.1.length = j
  clen : z.2.1.length = j
  cells : ∀ x ∈ z.1, x.cells.length = n ∧ ∀ v ∈ x.cells, v ≤ 255
  dlen : (dkP z.2.1).length ≤ 36 * j
theorem cells_le {n : Nat} {l : List Sheet} (h : ∀ x ∈ l, x.cells.length = n ∧ ∀ v ∈ x.cells, v ≤ 255) (a i : Nat) : cellsAt l a i ≤ 255 := by
  unfold cellsAt
  cases e : l[a]? with
  | none => exact Nat.zero_le _
  | some x =>
    show x.cells.getD i 0 ≤ 255
    rw [List.getD_eq_getElem?_getD]
    cases e2 : x.cells[i]? with
    | none => exact Nat.zero_le _
    | some v => exact (h x (List.mem_of_getElem? e)).2 v (List.mem_of_getElem? e2)
theorem touched_len (w h : Nat) (c : Ie14.Changes) (e : Effect) : (touched w h c e).length ≤ w * h := by
  unfold touched
  exact Nat.le_trans (List.length_filter_le _ _) (by simp)
theorem OnI.step {w h j : Nat} {z : List Sheet × Ie14.Changes × Nat} {x : Sheet} (I : OnI (w * h) j z) (hn : w * h ≤ 36) (hx : x.cells.length = w * h ∧ ∀ v ∈ x.cells, v ≤ 255) : OnI (w * h) (j + 1) (onStep w h z x) := by
  refine ⟨?_, ?_, ?_, ?_⟩
  · show (z.1 ++ [_]).length = _
    rw [List.length_append, I.len]
    rfl
  · show (z.2.1 ++ [_]).length = _
    rw [List.length_append, I.clen]
    rfl
  · intro y hy
    rcases List.mem_append.mp (show y ∈ z.1 ++ [_] from hy) with hy | hy
    · exact I.cells y hy
    · rw [List.mem_singleton.mp hy, again_eq]
      exact ⟨setL_len.trans hx.1, setL_le hx.2 fun i => value_le (cells_le I.cells)⟩
  · show (dkP (z.2.1 ++ [_])).length ≤ _
    rw [dkP_snoc, List.length_append, List.length_map, again_eq]
    have h1 := setL_clen (n := w * h) (x := x) (val := fun i => x.effect.value w h i (cellsAt z.1)) (L := touched w h z.2.1 x.effect)
    have h2 := touched_len w h z.2.1 x.effect
    have h3 := I.dlen
    omega
/-- the first m cells' touched ones -/
def tch (w h : Nat) (c : Ie14.Changes) (e : Effect) (m : Nat) : List Nat := (List.range m).filter fun i => (e.needs w h i).any fun q => (c.getD q.1 []).contains q.2
theorem tch_all (w h : Nat) (c : Ie14.Changes) (e : Effect) : tch w h c e (w * h) = touched w h c e := rfl
theorem tch_succ (w h : Nat) (c : Ie14.Changes) (e : Effect) (m : Nat) : tch w h c e (m + 1) = tch w h c e m ++ if ((e.needs w h m).any fun q => (c.getD q.1 []).contains q.2) = true then [m] else [] := by
  unfold tch
  rw [List.range_succ, List.filter_append]
  congr 1
  rw [List.filter_cons, List.filter_nil]
theorem tch_lt {w h : Nat} {c : Ie14.Changes} {e : Effect} {m : Nat} : ∀ i ∈ tch w h c e m, i < m := fun i hi => List.mem_range.mp (List.mem_filter.mp hi).1
theorem tch_len (w h : Nat) (c : Ie14.Changes) (e : Effect) (m : Nat) : (tch w h c e m).length ≤ m := by
  unfold tch
  exact Nat.le_trans (List.length_filter_le _ _) (by simp)
end Kp
set_option Elab.async false
set_option linter.all false
set_option maxRecDepth 100000
set_option maxHeartbeats 2000000
namespace Kp
open PySem PySem.Spec PyProof.Rows L2
open Ie14 (Effect Sheet near moveFrom around gap inBox cellsAt touched onFrom)
abbrev sGoOn : Stmt := inClass cPage 10
def spGoOn (K : PySem.W.Frag) (CP CS : Addr) : Sp := fun vs H Q _ => ∃ (p l d : Addr) (qs : List Lay) (s : Ie14.St) (k : Nat) (c : Ie14.Changes), vs = [.ref p, .int (k : Int), .ref d] ∧ PgAt CP CS H p l qs s ∧ Wf s ∧ k < s.sheets.length ∧ c.length = k + 1 ∧
  H d = some (.dT ((dkP c).map dKey)) ∧ (dkP c).length ≤ 36 * (k + 1) ∧
  ∀ H', PgAt CP CS H' p l qs { s with sheets := (onFrom s.w s.h (s.sheets.take (k + 1)) c (s.sheets.drop (k + 1))).1 } → Only H H' (d :: foot p l qs) → Q (.int (((onFrom s.w s.h (s.sheets.take (k + 1)) c (s.sheets.drop (k + 1))).2 : Nat) : Int)) H'
section
variable {P : Program} {w : World} {K : PySem.W.Frag} {mg : Str → Option Value} {base : Heap} {CP CS : Addr}
/-- the sheets while one of them is being made anew: those done, it, those to come -/
theorem take_snoc {α : Type} {l : List α} {i : Nat} {x : α} (h : l[i]? = some x) : l.take (i + 1) = l.take i ++ [x] := by rw [List.take_add_one, h]; rfl
theorem mid_get {α : Type} {a r : List α} {x : α} {j : Nat} (hj : a.length = j) : (a ++ x :: r)[j]? = some x := by
  rw [List.getElem?_append_right (by omega), hj, Nat.sub_self]
  rfl
theorem mid_set {α : Type} {a r : List α} {x y : α} {j : Nat} (hj : a.length = j) : (a ++ x :: r).set j y = a ++ y :: r := by
  rw [List.set_append_right _ _ (by omega), hj, Nat.sub_self]
  rfl
theorem mid_cellsAt {a r : List Sheet} {b i : Nat} (hb : b < a.length) : cellsAt (a ++ r) b i = cellsAt a b i := by
  unfold cellsAt
  rw [List.getElem?_append_left hb]
theorem scGoOn : FnScope ["self", "k", "changed", "touched", "behind", "effect", "cell"] ["self", "k", "changed"] (defScope sGoOn) := ⟨rfl, rfl, rfl, by decide +kernel, rfl, by decide +kernel, by decide +kernel⟩
theorem ok_goOn {f : Addr} {fd : FuncData} (F : Fun K "go_on" "Page.go_on" sGoOn f fd) (TC : TxC K mg CP CS) (TE : TxE K mg) (C1 : CalM P w K mg base CP "size" 1 ["self"] (spSize CP)) (C2 : CalM P w K mg base CP "is_touched" 3 ["self", "effect", "cell", "changed"] (spTch K CP))
    (C3 : CalM P w K mg base CP "number_by" 4 ["self", "effect", "cell"] (spNumBy K CP CS)) (C4 : CalM P w K mg base CP "put" 1 ["self", "k", "cell", "number", "changed"] (spPut K CP CS)) : FnOk P w K mg base CX0 5 f fd ["self", "k", "changed"] (spGoOn K CP CS) := by
  refine F.ok scGoOn (fun vs H Q E h => ?_) (fun cdv A outer s H vs Q E hr h => ?_)
  · obtain ⟨p, l, d, qs, s, k, c, rfl, _⟩ := h
    rfl
  · obtain ⟨p, l, d, qs, st, k, c, rfl, G, W, hk, hc, hd, hdl, kk⟩ := h
    have hr1 : Room 1 _ := hr.mono (by decide)
    have hr3 : Room 3 _ := hr.mono (by decide)
    refine ⟨_, pss_cons (ps_set (i := 3) scGoOn.nd rfl (Or.inl rfl) pe_int)
      (pss_cons (ps_for PassesOwn.never rfl (pi_range2 (by rfl) TE.range (pa_cons (pe_op op_add (pv 1) pe_int) (pa_cons (pe_callB call_len_seq (by rfl) TE.len PySem.boot_len (pa_cons (pe_fld (pv 0) rfl) pa_nil)) pa_nil))) (pg_name (i := 4) scGoOn.nd rfl (Or.inl rfl))
        (pss_cons (ps_set (i := 5) scGoOn.nd rfl (Or.inl rfl) (pe_fld (pe_ix ix_list (pe_fld (pv 0) rfl) (pv 4) (fun _ _ => rfl)) rfl))
        (pss_one (ps_for PassesOwn.never rfl (pi_range1 (by rfl) TE.range (pa_cons (pe_mth0 (pv 0) TC.clP C1 hr1) pa_nil)) (pg_name (i := 6) scGoOn.nd rfl (Or.inl rfl))
          (pss_one (ps_if (pt_val (pe_mth (pv 0) TC.clP C2 hr3 (pa_cons (pv 5) (pa_cons (pv 6) (pa_cons (pv 2) pa_nil)))))
            (pss_cons (ps_aug (i := 3) scGoOn.nd rfl (Or.inl rfl) pe_int ip_add)
            (pss_one (ps_expr (pe_mth (pv 0) TC.clP C4 hr1 (pa_cons (pv 4) (pa_cons (pv 6) (pa_cons (pe_mth (pv 0) TC.clP C3 hr (pa_cons (pv 5) (pa_cons (pv 6) pa_nil))) (pa_cons (pv 2) pa_nil)))))))) pss_nil))))))
      (pss_one (ps_ret (pv 3)))), ?_⟩
    obtain ⟨dx, hp⟩ := G.ins
    have hlen : qs.length = st.sheets.length := G.len
    have ten := W.ten
    have hn36 := W.n36
    have fold := onFrom_fold st.w st.h (st.sheets.drop (k + 1)) (st.sheets.take (k + 1)) c 0
    -- the state behind j sheets
    have Z : ∀ j, j ≤ st.sheets.length - (k + 1) → OnI (st.w * st.h) (k + 1 + j) (((st.sheets.drop (k + 1)).take j).foldl (onStep st.w st.h) (st.sheets.take (k + 1), c, 0)) := by
      intro j
      induction j with
      | zero =>
        intro _
        refine ⟨?_, hc, ?_, hdl⟩
        · show (st.sheets.take (k + 1)).length = _
          rw [List.length_take]
          omega
        · intro x hx
          exact W.cells x (List.mem_of_mem_take hx)
      | succ j ih =>
        intro hj
        have hjl : j < (st.sheets.drop (k + 1)).length := by rw [List.length_drop]; omega
        rw [take_snoc (List.getElem?_eq_getElem hjl), List.foldl_append]
        exact (ih (by omega)).step hn36 (W.cells _ (List.mem_of_mem_drop (List.getElem_mem hjl)))
    refine ⟨_, rfl, _, _, rfl, rfl, _, rfl, p, CP, dx, _, _, rfl, hp, TC.clP, TC.nS, pF_sheets, l, _, rfl, .inl (SqL.of G.lst), ?_⟩
    refine ⟨((k + 1 : Nat) : Int), ((qs.length : Nat) : Int), ?_, ⟨by omega, by omega, by omega, by omega⟩, for_range (lo := ((k + 1 : Nat) : Int)) (n := (((qs.length : Nat) : Int) - ((k + 1 : Nat) : Int)).toNat)
      (fun j σ H' => ∃ v4 v5 v6 : Option V, σ = [some (.ref p), some (.int (k : Int)), some (.ref d), some (.int (((((st.sheets.drop (k + 1)).take j).foldl (onStep st.w st.h) (st.sheets.take (k + 1), c, 0)).2.2 : Nat) : Int)), v4, v5, v6] ∧
        PgAt CP CS H' p l qs { st with sheets := (((st.sheets.drop (k + 1)).take j).foldl (onStep st.w st.h) (st.sheets.take (k + 1), c, 0)).1 ++ st.sheets.drop (k + 1 + j) } ∧
        H' d = some (.dT ((dkP (((st.sheets.drop (k + 1)).take j).foldl (onStep st.w st.h) (st.sheets.take (k + 1), c, 0)).2.1).map dKey)) ∧ Only H H' (d :: foot p l qs)) ⟨none, none, none, rfl, ?_, hd, Only.refl⟩ ?_ ?_⟩
    · rw [List.length_map]
      rfl
    · show PgAt CP CS H p l qs { st with sheets := st.sheets.take (k + 1) ++ st.sheets.drop (k + 1 + 0) }
      rw [Nat.add_zero, List.take_append_drop]
      exact G
    · rintro j σ H1 hj ⟨v4, v5, v6, rfl, G1, hd1, O1⟩
      have hj' : j < st.sheets.length - (k + 1) := by omega
      have I := Z j (by omega)
      have hjl : j < (st.sheets.drop (k + 1)).length := by rw [List.length_drop]; omega
      obtain ⟨x, hx⟩ : ∃ x, st.sheets[k + 1 + j]? = some x := ⟨_, List.getElem?_eq_getElem (by omega)⟩
      have ez : ((st.sheets.drop (k + 1)).take (j + 1)).foldl (onStep st.w st.h) (st.sheets.take (k + 1), c, 0) = onStep st.w st.h (((st.sheets.drop (k + 1)).take j).foldl (onStep st.w st.h) (st.sheets.take (k + 1), c, 0)) x := by
        have hx' : (st.sheets.drop (k + 1))[j]? = some x := by rw [List.getElem?_drop]; exact hx
        rw [take_snoc hx', List.foldl_append]
        rfl
      rw [ez]
      have edrop : st.sheets.drop (k + 1 + j) = x :: st.sheets.drop (k + 1 + (j + 1)) := by
        obtain ⟨lt, e⟩ := List.getElem?_eq_some_iff.mp hx
        rw [List.drop_eq_getElem_cons lt, e]
        rfl
      generalize hz : ((st.sheets.drop (k + 1)).take j).foldl (onStep st.w st.h) (st.sheets.take (k + 1), c, 0) = z at *
      rw [edrop] at G1
      have Wx := W.sh _ x hx
      have Wnw : x.news = (List.range (st.w * st.h)).filter fun i => x.news.contains i := Wx.nw
      have Cx := W.cells x (List.mem_of_getElem? hx)
      obtain ⟨q, hq⟩ : ∃ q, qs[k + 1 + j]? = some q := ⟨_, List.getElem?_eq_getElem (by omega)⟩
      obtain ⟨dx1, hp1⟩ := G1.ins
      obtain ⟨⟨dx2, g1⟩, _, _, _⟩ := G1.at_ (k + 1 + j) q x hq (mid_get I.len)
      refine ⟨_, rfl, p, CP, dx1, _, _, rfl, hp1, TC.clP, TC.nS, pF_sheets, _, rfl, l, _, _, _, rfl, rfl, SqL.of G1.lst, atI_nat (j := k + 1 + j) (v := V.ref q.s) (by rw [List.getElem?_map, hq]; rfl), q.s, CS, dx2, _, _, rfl, g1, TC.clS, TC.nE, sF_effect, ?_⟩
      refine ⟨_, rfl, p, dx1, _, rfl, hp1, pF_no, p, dx1, l, st.w, st.h, rfl, hp1, W.w6, ((st.w * st.h : Nat) : Int), rfl, by omega, by omega, for_range (lo := 0) (n := st.w * st.h)
        (fun m σ H' => ∃ v6 : Option V, σ = [some (.ref p), some (.int (k : Int)), some (.ref d), some (.int ((z.2.2 + (tch st.w st.h z.2.1 x.effect m).length : Nat) : Int)), some (.int ((k + 1 + j : Nat) : Int)), some (.ref q.e), v6] ∧
          PgAt CP CS H' p l qs { st with sheets := z.1 ++ (setL (st.w * st.h) x (fun i => x.effect.value st.w st.h i (cellsAt z.1)) (tch st.w st.h z.2.1 x.effect m)).1 :: st.sheets.drop (k + 1 + (j + 1)) } ∧
          H' d = some (.dT ((dkP (z.2.1 ++ [(setL (st.w * st.h) x (fun i => x.effect.value st.w st.h i (cellsAt z.1)) (tch st.w st.h z.2.1 x.effect m)).2])).map dKey)) ∧ Only H H' (d :: foot p l qs)) ⟨v6, rfl, ?_, ?_, O1⟩ ?_ ?_⟩
      · show PgAt CP CS H1 p l qs { st with sheets := z.1 ++ (setL (st.w * st.h) x _ []).1 :: st.sheets.drop (k + 1 + (j + 1)) }
        rw [setL_nil _ Wnw]
        exact G1
      · show H1 d = some (.dT ((dkP (z.2.1 ++ [(setL (st.w * st.h) x _ []).2])).map dKey))
        rw [setL_nil _ Wnw, dkP_snoc]
        simpa using hd1
      · rintro m σ H2 hm ⟨v6', rfl, G2, hd2, O2⟩
        rw [Int.zero_add]
        obtain ⟨dx3, hp3⟩ := G2.ins
        have hS := G2.at_ (k + 1 + j) q _ hq (mid_get I.len)
        have heff : SqL K H2 q.e (lN (encE x.effect)) := SqL.of hS.eff
        refine ⟨_, rfl, p, dx3, _, rfl, hp3, pF_no, _, rfl, _, rfl, _, rfl, p, dx3, l, q.e, d, st.w, st.h, m, x.effect, _, rfl, hp3, heff, W.w0, W.w6, W.h0, W.h6, hm, hd2, fun H3 s3 => ⟨_, rfl, ?_⟩⟩
        have eT : ((x.effect.needs st.w st.h m).any fun q9 => decide (q9 ∈ dkP (z.2.1 ++ [(setL (st.w * st.h) x (fun i => x.effect.value st.w st.h i (cellsAt z.1)) (tch st.w st.h z.2.1 x.effect m)).2]))) = ((x.effect.needs st.w st.h m).any fun q9 => (z.2.1.getD q9.1 []).contains q9.2) := by
          have key : ∀ q9 ∈ x.effect.needs st.w st.h m, decide (q9 ∈ dkP (z.2.1 ++ [(setL (st.w * st.h) x (fun i => x.effect.value st.w st.h i (cellsAt z.1)) (tch st.w st.h z.2.1 x.effect m)).2])) = (z.2.1.getD q9.1 []).contains q9.2 := by
            intro q9 h9
            have lt9 : q9.1 < z.2.1.length := by rw [I.clen]; exact Wx.of _ (needs_in W.w0 W.h0 hm q9 h9).1
            rw [dkP_in, List.getD_eq_getElem?_getD, List.getElem?_append_left lt9, ← List.getD_eq_getElem?_getD]
          rw [Bool.eq_iff_iff, List.any_eq_true, List.any_eq_true]
          constructor
          · rintro ⟨q9, h9, h8⟩
            exact ⟨q9, h9, by rw [← key q9 h9]; exact h8⟩
          · rintro ⟨q9, h9, h8⟩
            exact ⟨q9, h9, by rw [key q9 h9]; exact h8⟩
        rw [eT]
        have ts := tch_succ st.w st.h z.2.1 x.effect m
        by_cases cT : ((x.effect.needs st.w st.h m).any fun q9 => (z.2.1.getD q9.1 []).contains q9.2) = true
        · refine if_true_of cT ?_
          rw [if_pos cT] at ts
          rw [ts]
          have hne : kindE x.effect ≠ 0 := by
            intro z9
            rw [kind0.mp z9] at cT
            cases cT
          have hxl : (setL (st.w * st.h) x (fun i => x.effect.value st.w st.h i (cellsAt z.1)) (tch st.w st.h z.2.1 x.effect m)).1.cells.length = st.w * st.h := setL_len.trans Cx.1
          have W2 : Wf0 { st with sheets := z.1 ++ (setL (st.w * st.h) x (fun i => x.effect.value st.w st.h i (cellsAt z.1)) (tch st.w st.h z.2.1 x.effect m)).1 :: st.sheets.drop (k + 1 + (j + 1)) } := by
            refine ⟨W.w0, W.w6, W.h0, W.h6, ?_, ?_⟩
            · show (z.1 ++ _ :: st.sheets.drop (k + 1 + (j + 1))).length ≤ 10
              rw [List.length_append, List.length_cons, List.length_drop, I.len]
              omega
            · intro y hy
              rcases List.mem_append.mp (show y ∈ z.1 ++ _ :: st.sheets.drop (k + 1 + (j + 1)) from hy) with hy | hy
              · exact I.cells y hy
              · rcases List.mem_cons.mp hy with hy | hy
                · rw [hy]
                  exact ⟨hxl, setL_le Cx.2 fun i => value_le (cells_le I.cells)⟩
                · exact W.cells y (List.mem_of_mem_drop hy)
          have l2 : k + 1 + j < (z.1 ++ (setL (st.w * st.h) x (fun i => x.effect.value st.w st.h i (cellsAt z.1)) (tch st.w st.h z.2.1 x.effect m)).1 :: st.sheets.drop (k + 1 + (j + 1))).length := by
            rw [List.length_append, List.length_cons, I.len]
            omega
          have ev : x.effect.value st.w st.h m (cellsAt (z.1 ++ (setL (st.w * st.h) x (fun i => x.effect.value st.w st.h i (cellsAt z.1)) (tch st.w st.h z.2.1 x.effect m)).1 :: st.sheets.drop (k + 1 + (j + 1)))) = x.effect.value st.w st.h m (cellsAt z.1) :=
            value_congr fun q9 h9 => mid_cellsAt (by rw [I.len]; exact Wx.of _ (needs_in W.w0 W.h0 hm q9 h9).1)
          have hmt : m ∉ tch st.w st.h z.2.1 x.effect m := fun z9 => Nat.lt_irrefl _ (tch_lt m z9)
          have sn := setL_snoc (val := fun i => x.effect.value st.w st.h i (cellsAt z.1)) Cx.1 (show m < st.n from hm) hmt (fun i hi => Nat.lt_trans (tch_lt i hi) hm)
          have hnew : (k + 1 + j, m) ∉ dkP (z.2.1 ++ [(setL (st.w * st.h) x (fun i => x.effect.value st.w st.h i (cellsAt z.1)) (tch st.w st.h z.2.1 x.effect m)).2]) := by
            rw [dkP_mem, List.getD_eq_getElem?_getD, mid_get I.clen]
            exact fun z9 => hmt (setL_sub _ z9)
          have hDl : (dkP (z.2.1 ++ [(setL (st.w * st.h) x (fun i => x.effect.value st.w st.h i (cellsAt z.1)) (tch st.w st.h z.2.1 x.effect m)).2])).length < 1000000 := by
            rw [dkP_snoc, List.length_append, List.length_map]
            have h1 := setL_clen (n := st.w * st.h) (x := x) (val := fun i => x.effect.value st.w st.h i (cellsAt z.1)) (L := tch st.w st.h z.2.1 x.effect m)
            have h2 := tch_len st.w st.h z.2.1 x.effect m
            have h3 := I.dlen
            omega
          refine ⟨_, rfl, _, _, rfl, rfl, ?_⟩
          refine ⟨_, rfl, p, dx3, _, rfl, s3 _ _ hp3, pF_no, _, rfl, _, rfl, _, rfl, p, dx3, _, rfl, s3 _ _ hp3, pF_no, _, rfl, _, rfl, p, l, q.e, qs, _, m, x.effect, rfl, G2.same s3, W2, s3.seq heff, hne, fun b hb => Nat.lt_trans (Wx.of b hb) l2, hm, fun H4 s4 => ?_⟩
          refine ⟨_, rfl, p, l, d, qs, _, k + 1 + j, m, _, _, _, rfl, (G2.same s3).same s4, mid_get I.len, hm, hxl, s4 _ _ (s3 _ _ hd2), hDl, hnew, fun H5 G5 hd5 O5 => ?_⟩
          have sn1 := congrArg Prod.fst sn
          have sn2 := congrArg Prod.snd sn
          refine ⟨some (.int (m : Int)), ?_, ?_, ?_, (O2.trans (same_only (Same.trans s3 s4))).trans O5⟩
          · have e5 : ((z.2.2 + (tch st.w st.h z.2.1 x.effect m ++ [m]).length : Nat) : Int) = ((z.2.2 + (tch st.w st.h z.2.1 x.effect m).length : Nat) : Int) + 1 := by
              rw [List.length_append]
              rfl
            rw [e5]
            rfl
          · have G6 := G5
            dsimp only at G6
            rw [mid_set I.len, ev] at G6
            rw [show (setL (st.w * st.h) x (fun i => x.effect.value st.w st.h i (cellsAt z.1)) (tch st.w st.h z.2.1 x.effect m ++ [m])).1 = _ from sn1]
            exact G6
          · rw [show (setL (st.w * st.h) x (fun i => x.effect.value st.w st.h i (cellsAt z.1)) (tch st.w st.h z.2.1 x.effect m ++ [m])).2 = _ from sn2, dkP_snoc2, I.clen]
            dsimp only at hd5
            rw [ev] at hd5
            exact hd5
        · refine if_false_of (by simpa using cT) ?_
          rw [if_neg cT, List.append_nil] at ts
          rw [ts]
          exact ⟨_, rfl, G2.same s3, s3 _ _ hd2, O2.trans (same_only s3)⟩
      · rintro σ H2 ⟨v6', rfl, G2, hd2, O2⟩
        refine ⟨_, _, v6', rfl, ?_, hd2, O2⟩
        show PgAt CP CS H2 p l qs { st with sheets := (z.1 ++ [_]) ++ _ }
        rw [List.append_assoc]
        exact G2
    · rintro σ H1 ⟨v4, v5, v6, rfl, G1, hd1, O1⟩
      have e8 : (st.sheets.drop (k + 1)).take ((((qs.length : Nat) : Int) - ((k + 1 : Nat) : Int)).toNat) = st.sheets.drop (k + 1) := List.take_of_length_le (by rw [List.length_drop]; omega)
      have e7 : st.sheets.drop (k + 1 + (((qs.length : Nat) : Int) - ((k + 1 : Nat) : Int)).toNat) = [] := List.drop_eq_nil_of_le (by omega)
      rw [e8, e7, List.append_nil, fold.1] at G1
      refine ⟨_, rfl, ?_⟩
      rw [e8, fold.2, Nat.zero_add]
      exact kk _ G1 O1
end
end Kp
set_option Elab.async false
set_option linter.all false
set_option maxRecDepth 100000
set_option maxHeartbeats 2000000
namespace Kp
open PySem PySem.Spec PyProof.Rows L2
open Ie14 (Effect Sheet near moveFrom around gap inBox cellsAt touched onFrom)
abbrev sPaint : Stmt := inClass cPage 8
abbrev sGive : Stmt := inClass cPage 9
/-- a sheet set, and the change taken on -/
def goes (s : Ie14.St) (k : Nat) (r : Sheet × List Nat) : List Sheet × Nat := onFrom s.w s.h (s.sheets.take k ++ [r.1]) (List.replicate k [] ++ [r.2]) (s.sheets.drop (k + 1))
def spPaint (K : PySem.W.Frag) (CP CS : Addr) : Sp := fun vs H Q _ => ∃ (p l a : Addr) (qs : List Lay) (s : Ie14.St) (k n : Nat) (L : List Nat) (x : Sheet), vs = [.ref p, .int (k : Int), .ref a, .int (n : Int)] ∧ PgAt CP CS H p l qs s ∧ Wf s ∧ s.sheets[k]? = some x ∧
  H a = some (.lst (lN L)) ∧ a ∉ foot p l qs ∧ L.Nodup ∧ L.length ≤ 36 ∧ (∀ i ∈ L, i < s.n) ∧ n ≤ 255 ∧
  ∀ H' b, PgAt CP CS H' p l qs { s with sheets := (goes s k (setL s.n x (fun _ => n) L)).1 } → Only H H' (foot p l qs) → H b = none →
    H' b = some (.lst [.int (((setL s.n x (fun _ => n) L).2.length : Nat) : Int), .int (((goes s k (setL s.n x (fun _ => n) L)).2 : Nat) : Int)]) → Q (.ref b) H'
theorem dkP_rep (k : Nat) : dkP (List.replicate k []) = [] := by
  apply List.eq_nil_iff_forall_not_mem.mpr
  rintro ⟨a, i⟩ h
  rw [dkP_mem, List.getD_eq_getElem?_getD] at h
  by_cases c : a < k
  · rw [List.getElem?_replicate, if_pos c] at h
    cases h
  · rw [List.getElem?_replicate, if_neg c] at h
    cases h
theorem dkP_one (k : Nat) (l : List Nat) : dkP (List.replicate k [] ++ [l]) = l.map fun i => (k, i) := by
  rw [dkP_snoc, dkP_rep, List.length_replicate]
  rfl
theorem take_set_succ {α : Type} {l : List α} {k : Nat} {x : α} (h : k < l.length) : (l.set k x).take (k + 1) = l.take k ++ [x] := by
  rw [take_snoc (List.getElem?_set_self h), List.take_set_of_le (Nat.le_refl _)]
theorem nodup_take {L : List Nat} {j i : Nat} (hL : L.Nodup) (hi : L[j]? = some i) : i ∉ L.take j := by
  have h : (L.take (j + 1)).Nodup := hL.sublist (List.take_sublist _ _)
  rw [take_snoc hi] at h
  exact fun z => (List.nodup_append.mp h).2.2 i z i (List.mem_singleton.mpr rfl) rfl
theorem PgAt.tracked {CP CS : Addr} {H : Hp} {p l b : Addr} {qs : List Lay} {s : Ie14.St} (G : PgAt CP CS H p l qs s) (hb : b ∈ foot p l qs) : ∃ o, H b = some o := by
  rcases List.mem_cons.mp hb with z | hb
  · obtain ⟨dx, h⟩ := G.ins
    exact ⟨_, by rw [z]; exact h⟩
  · rcases List.mem_cons.mp hb with z | hb
    · exact ⟨_, by rw [z]; exact G.lst⟩
    · obtain ⟨q, hq, hu⟩ := List.mem_flatMap.mp hb
      obtain ⟨k, hk⟩ := List.mem_iff_getElem?.mp hq
      have lk : k < s.sheets.length := by rw [← G.len]; exact (List.getElem?_eq_some_iff.mp hk).1
      obtain ⟨⟨dx, h1⟩, h2, h3, h4⟩ := G.at_ k q _ hk (List.getElem?_eq_getElem lk)
      rcases List.mem_cons.mp hu with z | hu
      · exact ⟨_, by rw [z]; exact h1⟩
      rcases List.mem_cons.mp hu with z | hu
      · exact ⟨_, by rw [z]; exact h2⟩
      rcases List.mem_cons.mp hu with z | hu
      · exact ⟨_, by rw [z]; exact h3⟩
      · exact ⟨_, by rw [List.mem_singleton.mp hu]; exact h4⟩
/-- what is new behind a change was new ahead of it -/
theorem PgAt.new {CP CS : Addr} {H H' : Hp} {p l b : Addr} {qs : List Lay} {s : Ie14.St} (G : PgAt CP CS H' p l qs s) (O : Only H H' (foot p l qs)) (nb : H' b = none) : H b = none := by
  cases q : H b with
  | none => rfl
  | some o =>
    by_cases c : b ∈ foot p l qs
    · obtain ⟨u, hu⟩ := G.tracked c
      rw [nb] at hu
      cases hu
    · rw [O b o q c] at nb
      cases nb
theorem Wf.set {s : Ie14.St} {k : Nat} {x : Sheet} (W : Wf s) (hk : k < s.sheets.length) (hc : x.cells.length = s.n ∧ ∀ v ∈ x.cells, v ≤ 255) (hs : WfS s.n k x) : Wf { s with sheets := s.sheets.set k x } := by
  refine ⟨⟨W.w0, W.w6, W.h0, W.h6, by show (s.sheets.set k x).length ≤ 10; rw [List.length_set]; exact W.ten, ?_⟩, ?_⟩
  · intro y hy
    rcases List.mem_or_eq_of_mem_set (show y ∈ s.sheets.set k x from hy) with h | h
    · exact W.cells y h
    · rw [h]; exact hc
  · intro j y hj
    have hj : (s.sheets.set k x)[j]? = some y := hj
    by_cases c : k = j
    · subst c
      rw [List.getElem?_set_self hk] at hj
      cases hj
      exact hs
    · rw [List.getElem?_set_ne c] at hj
      exact W.sh j y hj
section
variable {P : Program} {w : World} {K : PySem.W.Frag} {mg : Str → Option Value} {base : Heap} {CP CS : Addr}
theorem scPaint : FnScope ["self", "k", "cells", "n", "changed", "cell", "own"] ["self", "k", "cells", "n"] (defScope sPaint) := ⟨rfl, rfl, rfl, by decide +kernel, rfl, by decide +kernel, by decide +kernel⟩
theorem ok_paint {f : Addr} {fd : FuncData} (F : Fun K "paint" "Page.paint" sPaint f fd) (TC : TxC K mg CP CS) (TE : TxE K mg) (C4 : CalM P w K mg base CP "put" 1 ["self", "k", "cell", "number", "changed"] (spPut K CP CS)) (C5 : CalM P w K mg base CP "go_on" 5 ["self", "k", "changed"] (spGoOn K CP CS)) :
    FnOk P w K mg base CX0 6 f fd ["self", "k", "cells", "n"] (spPaint K CP CS) := by
  refine F.ok scPaint (fun vs H Q E h => ?_) (fun cdv A outer s H vs Q E hr h => ?_)
  · obtain ⟨p, l, a, qs, s, k, n, L, x, rfl, _⟩ := h
    rfl
  · obtain ⟨p, l, a, qs, st, k, n, L, x, rfl, G, W, hx, ha, naf, hL, hLl, hLn, hn, kk⟩ := h
    have hr1 : Room 1 _ := hr.mono (by decide)
    refine ⟨_, pss_cons (ps_set (i := 4) scPaint.nd rfl (Or.inl rfl) pe_dnewT)
      (pss_cons (ps_for PassesOwn.never rfl (pi_list (pv 2)) (pg_name (i := 5) scPaint.nd rfl (Or.inl rfl))
        (pss_one (ps_expr (pe_mth (pv 0) TC.clP C4 hr1 (pa_cons (pv 1) (pa_cons (pv 5) (pa_cons (pv 3) (pa_cons (pv 4) pa_nil))))))))
      (pss_cons (ps_set (i := 6) scPaint.nd rfl (Or.inl rfl) (pe_callB call_len_dT (by rfl) TE.len PySem.boot_len (pa_cons (pv 4) pa_nil)))
      (pss_one (ps_ret (pe_lst (pa_cons (pv 6) (pa_cons (pe_mth (pv 0) TC.clP C5 hr (pa_cons (pv 1) (pa_cons (pv 4) pa_nil))) pa_nil))))))), ?_⟩
    intro d nd
    have hk : k < st.sheets.length := (List.getElem?_eq_some_iff.mp hx).1
    have Cx := W.cells x (List.mem_of_getElem? hx)
    have Wx := W.sh k x hx
    have s0 : Same H (upd H d (.dT [])) := same_new nd
    have nda : a ≠ d := ne_of_none ha nd
    have na2 : a ∉ d :: foot p l qs := fun z => by
      rcases List.mem_cons.mp z with z | z
      · exact nda z
      · exact naf z
    have hn36 := W.n36
    have en : st.n = st.w * st.h := rfl
    refine ⟨_, rfl, a, rfl, ⟨_, SqL.of (s0 _ _ ha)⟩, for_list (K := K) (a := a) (xs := lN L) (fun j σ H' => ∃ v5 : Option V, σ = [some (.ref p), some (.int (k : Int)), some (.ref a), some (.int (n : Int)), some (.ref d), v5, none] ∧
        PgAt CP CS H' p l qs { st with sheets := st.sheets.set k (setL st.n x (fun _ => n) (L.take j)).1 } ∧ H' d = some (.dT (((setL st.n x (fun _ => n) (L.take j)).2.map fun i => (k, i)).map dKey)) ∧ H' a = some (.lst (lN L)) ∧ Only (upd H d (.dT [])) H' (d :: foot p l qs))
      ⟨none, rfl, ?_, ?_, s0 _ _ ha, Only.refl⟩ (fun j σ H' _ ⟨_, _, _, _, e, _⟩ => SqL.of e) ?_ ?_⟩
    · rw [List.take_zero, setL_nil _ Wx.nw]
      have e3 : st.sheets.set k x = st.sheets := by
        obtain ⟨_, e⟩ := List.getElem?_eq_some_iff.mp hx
        rw [← e]
        exact List.set_getElem_self hk
      show PgAt CP CS _ p l qs { st with sheets := st.sheets.set k x }
      rw [e3]
      exact G.same s0
    · rw [List.take_zero, setL_nil _ Wx.nw, upd_same]
      rfl
    · rintro j y σ H1 hy ⟨v5, rfl, G1, hd1, ha1, O1⟩
      rw [lN_get] at hy
      obtain ⟨i, hi, rfl⟩ := Option.map_eq_some_iff.mp hy
      have hin : i < st.n := hLn i (List.mem_of_getElem? hi)
      have hij : i ∉ L.take j := nodup_take hL hi
      have sn := setL_snoc (val := fun _ => n) Cx.1 hin hij (fun m hm => hLn m (List.mem_of_mem_take hm))
      have sn1 := congrArg Prod.fst sn
      have sn2 := congrArg Prod.snd sn
      obtain ⟨dx, hp⟩ := G1.ins
      refine ⟨_, rfl, p, dx, _, rfl, hp, pF_no, _, rfl, _, rfl, _, rfl, _, rfl, p, l, d, qs, _, k, i, n, _, _, rfl, G1, List.getElem?_set_self hk, hin, setL_len.trans Cx.1, hd1, ?_, ?_, fun H2 G2 hd2 O2 => ?_⟩
      · rw [List.length_map]
        have h1 := setL_clen (n := st.n) (x := x) (val := fun _ => n) (L := L.take j)
        rw [List.length_take] at h1
        omega
      · intro z
        obtain ⟨m, hm, em⟩ := List.mem_map.mp z
        injection em with _ em
        rw [em] at hm
        exact hij (setL_sub _ hm)
      · refine ⟨some (.int (i : Int)), rfl, ?_, ?_, O2 _ _ ha1 na2, O1.trans O2⟩
        · rw [take_snoc hi, sn1]
          have G3 := G2
          dsimp only at G3
          rw [List.set_set] at G3
          exact G3
        · rw [take_snoc hi, sn2, List.map_append]
          exact hd2
    · rintro σ H1 ⟨v5, rfl, G1, hd1, ha1, O1⟩
      rw [lN_length, List.take_length] at G1 hd1
      refine ⟨_, rfl, d, _, rfl, hd1, ?_⟩
      obtain ⟨dx, hp⟩ := G1.ins
      have W1 : Wf { st with sheets := st.sheets.set k (setL st.n x (fun _ => n) L).1 } := W.set hk ⟨setL_len.trans Cx.1, setL_le Cx.2 fun _ => hn⟩ ⟨Wx.of, Wx.ok, setL_news⟩
      refine ⟨_, rfl, _, rfl, p, dx, _, rfl, hp, pF_no, _, rfl, _, rfl, p, l, d, qs, _, k, List.replicate k [] ++ [(setL st.n x (fun _ => n) L).2], rfl, G1, W1, by show k < (st.sheets.set k _).length; rw [List.length_set]; exact hk, by simp, by rw [dkP_one]; exact hd1, ?_, fun H2 G2 O2 => ?_⟩
      · rw [dkP_one, List.length_map]
        have h1 := setL_clen (n := st.n) (x := x) (val := fun _ => n) (L := L)
        omega
      · have e1 : (st.sheets.set k (setL st.n x (fun _ => n) L).1).take (k + 1) = st.sheets.take k ++ [(setL st.n x (fun _ => n) L).1] := take_set_succ hk
        have e2 : (st.sheets.set k (setL st.n x (fun _ => n) L).1).drop (k + 1) = st.sheets.drop (k + 1) := List.drop_set_of_lt (by omega)
        refine ⟨(by show 2 ≤ sizeLine; decide), fun b nb => ?_⟩
        have O3 : Only (upd H d (.dT [])) H2 (d :: foot p l qs) := O1.trans O2
        have O4 : Only H H2 (foot p l qs) := fun u o e hu => O3 u o (s0 u o e) fun z => by
          rcases List.mem_cons.mp z with z | z
          · exact ne_of_none e nd z
          · exact hu z
        have nbH : H b = none := G2.new O4 nb
        refine kk _ b ?_ ?_ nbH ?_
        · have G3 := G2
          dsimp only at G3
          rw [e1, e2] at G3
          exact G3.same (same_new nb)
        · exact O4.trans (same_only (same_new nb))
        · rw [upd_same, List.length_map, List.length_map]
          dsimp only
          rw [e1, e2]
          rfl
end
end Kp
set_option Elab.async false
set_option linter.all false
set_option maxRecDepth 100000
set_option maxHeartbeats 2000000
namespace Kp
open PySem PySem.Spec PyProof.Rows L2
open Ie14 (Effect Sheet near moveFrom around gap inBox cellsAt touched onFrom)
theorem nodup_of_apart {p l : Addr} {qs : List Lay} (A : Apart p l qs) : (foot p l qs).Nodup := by
  unfold foot
  refine List.nodup_cons.mpr ⟨fun z => ?_, List.nodup_cons.mpr ⟨fun z => ?_, List.pairwise_flatMap.mpr ⟨A.in_, List.pairwise_iff_getElem.mpr fun j k hj hk hjk u hu v hv => ?_⟩⟩⟩
  · rcases List.mem_cons.mp z with z | z
    · exact A.pl z
    · obtain ⟨q, hq, hu⟩ := List.mem_flatMap.mp z
      exact A.p_ q hq p hu rfl
  · obtain ⟨q, hq, hu⟩ := List.mem_flatMap.mp z
    exact A.l_ q hq l hu rfl
  · exact A.two j k _ _ (List.getElem?_eq_getElem hj) (List.getElem?_eq_getElem hk) (by omega) u hu v hv
theorem foot_set_sub {p l a : Addr} {qs : List Lay} {k : Nat} {q : Lay} (hq : qs[k]? = some q) : ∀ u ∈ foot p l (qs.set k { q with e := a }), u ∈ a :: foot p l qs := by
  intro u hu
  rcases List.mem_cons.mp hu with z | hu
  · exact List.mem_cons_of_mem _ (by rw [z]; exact List.mem_cons_self ..)
  rcases List.mem_cons.mp hu with z | hu
  · exact List.mem_cons_of_mem _ (by rw [z]; exact List.mem_cons_of_mem _ (List.mem_cons_self ..))
  obtain ⟨q', hq', hu'⟩ := List.mem_flatMap.mp hu
  rcases List.mem_or_eq_of_mem_set hq' with z | z
  · exact List.mem_cons_of_mem _ (mem_foot z hu')
  · rw [z] at hu'
    have mq := List.mem_of_getElem? hq
    simp at hu'
    rcases hu' with z | z | z | z
    · exact List.mem_cons_of_mem _ (mem_foot mq (by rw [z]; simp [Lay.all]))
    · rw [z]; exact List.mem_cons_self ..
    · exact List.mem_cons_of_mem _ (mem_foot mq (by rw [z]; simp [Lay.all]))
    · exact List.mem_cons_of_mem _ (mem_foot mq (by rw [z]; simp [Lay.all]))
theorem nodup_set {p l a : Addr} {qs : List Lay} {k : Nat} {q : Lay} (h : (foot p l qs).Nodup) (hq : qs[k]? = some q) (ha : a ∉ foot p l qs) : (foot p l (qs.set k { q with e := a })).Nodup := by
  have A := apart_of h
  have mq := List.mem_of_getElem? hq
  have hk : k < qs.length := (List.getElem?_eq_some_iff.mp hq).1
  have sub : ∀ u ∈ ({ q with e := a } : Lay).all, u ∈ q.all ∨ u = a := fun u hu => by
    simp [Lay.all] at hu ⊢
    rcases hu with z | z | z | z <;> simp [z]
  have memc : ∀ q' ∈ qs.set k { q with e := a }, ∀ u ∈ q'.all, (∃ q'' ∈ qs, u ∈ q''.all) ∨ u = a := fun q' hq' u hu => by
    rcases List.mem_or_eq_of_mem_set hq' with z | z
    · exact .inl ⟨q', z, hu⟩
    · rw [z] at hu
      rcases sub u hu with y | y
      · exact .inl ⟨q, mq, y⟩
      · exact .inr y
  refine nodup_of_apart ⟨A.pl, fun q' hq' u hu z => ?_, fun q' hq' u hu z => ?_, fun q' hq' => ?_, fun i j b c hb hc hij u hu v hv z => ?_⟩
  · rcases memc q' hq' u hu with ⟨q'', m, y⟩ | y
    · exact A.p_ q'' m u y z
    · exact ha (by rw [← y, ← z]; exact List.mem_cons_self ..)
  · rcases memc q' hq' u hu with ⟨q'', m, y⟩ | y
    · exact A.l_ q'' m u y z
    · exact ha (by rw [← y, ← z]; exact List.mem_cons_of_mem _ (List.mem_cons_self ..))
  · rcases List.mem_or_eq_of_mem_set hq' with z | z
    · exact A.in_ q' z
    · rw [z]
      have nd := A.in_ q mq
      have na : ∀ u ∈ q.all, a ≠ u := fun u hu z => ha (by rw [z]; exact mem_foot mq hu)
      have n1 := na q.s (by simp [Lay.all])
      have n2 := na q.c (by simp [Lay.all])
      have n3 := na q.f (by simp [Lay.all])
      simp [Lay.all] at nd ⊢
      obtain ⟨⟨_, b, c⟩, ⟨d, e⟩, f⟩ := nd
      exact ⟨⟨fun z => n1 z.symm, b, c⟩, ⟨n2, n3⟩, f⟩
  · have key : ∀ (i : Nat) (b : Lay) (u : Addr), (qs.set k { q with e := a })[i]? = some b → u ∈ b.all → (∃ b', qs[i]? = some b' ∧ u ∈ b'.all) ∨ (u = a ∧ i = k) := fun i b u hb hu => by
      by_cases c : k = i
      · subst c
        rw [List.getElem?_set_self hk] at hb
        cases hb
        rcases sub u hu with y | y
        · exact .inl ⟨q, hq, y⟩
        · exact .inr ⟨y, rfl⟩
      · rw [List.getElem?_set_ne c] at hb
        exact .inl ⟨b, hb, hu⟩
    rcases key i b u hb hu with ⟨b', h1, h2⟩ | ⟨h1, h2⟩
    · rcases key j c v hc hv with ⟨c', h3, h4⟩ | ⟨h3, h4⟩
      · exact A.two i j b' c' h1 h3 hij u h2 v h4 z
      · exact ha (by rw [← h3, ← z]; exact mem_foot (List.mem_of_getElem? h1) h2)
    · rcases key j c v hc hv with ⟨c', h3, h4⟩ | ⟨h3, h4⟩
      · exact ha (by rw [← h1, z]; exact mem_foot (List.mem_of_getElem? h3) h4)
      · exact hij (h2.trans h4.symm)
/-- a sheet is given another effect's list -/
theorem PgAt.seteff {CP CS : Addr} {H H' : Hp} {p l a : Addr} {qs : List Lay} {s : Ie14.St} {k : Nat} {q : Lay} {x : Sheet} {e : Effect} (G : PgAt CP CS H p l qs s) (hq : qs[k]? = some q) (hx : s.sheets[k]? = some x) (ha : H a = some (.lst (lN (encE e)))) (naf : a ∉ foot p l qs)
    (h1 : ∃ dx, H' q.s = some (.ins CS dx (sF { q with e := a }))) (keep : ∀ b o, H b = some o → b ≠ q.s → H' b = some o) : PgAt CP CS H' p l (qs.set k { q with e := a }) { s with sheets := s.sheets.set k { x with effect := e } } := by
  have A := apart_of G.nd
  have mq : q ∈ qs := List.mem_of_getElem? hq
  have hk : k < qs.length := (List.getElem?_eq_some_iff.mp hq).1
  have hk2 : k < s.sheets.length := (List.getElem?_eq_some_iff.mp hx).1
  have S := G.at_ k q x hq hx
  have nd := A.in_ q mq
  have hn : q.c ≠ q.s ∧ q.f ≠ q.s := by
    simp [Lay.all] at nd
    obtain ⟨⟨_, b, c⟩, _, _⟩ := nd
    exact ⟨fun z => b z.symm, fun z => c z.symm⟩
  have nas : a ≠ q.s := fun z => naf (by rw [z]; exact mem_foot mq (by simp [Lay.all]))
  obtain ⟨dx, hp⟩ := G.ins
  refine ⟨⟨dx, keep _ _ hp (A.p_ q mq _ (by simp [Lay.all]))⟩, ?_, ?_, fun j b y hb hy => ?_, nodup_set G.nd hq naf⟩
  · have e9 : ((qs.set k { q with e := a }).map fun q => V.ref q.s) = qs.map fun q => V.ref q.s := by
      rw [List.map_set]
      obtain ⟨_, eq⟩ := List.getElem?_eq_some_iff.mp hq
      have e8 : (qs.map fun q => V.ref q.s)[k]'(by rw [List.length_map]; exact hk) = V.ref q.s := by rw [List.getElem_map, eq]
      show (qs.map fun q => V.ref q.s).set k (V.ref q.s) = _
      rw [← e8]
      exact List.set_getElem_self _
    rw [e9]
    exact keep _ _ G.lst (A.l_ q mq _ (by simp [Lay.all]))
  · show (qs.set k _).length = (s.sheets.set k _).length
    rw [List.length_set, List.length_set]
    exact G.len
  · have hy : (s.sheets.set k { x with effect := e })[j]? = some y := hy
    by_cases c : k = j
    · subst c
      rw [List.getElem?_set_self hk] at hb
      rw [List.getElem?_set_self hk2] at hy
      cases hb
      cases hy
      exact ⟨h1, keep _ _ ha nas, keep _ _ S.cel hn.1, keep _ _ S.fre hn.2⟩
    · rw [List.getElem?_set_ne c] at hb hy
      refine (G.at_ j b y hb hy).keep fun u o hu e9 => keep u o e9 fun z => ?_
      exact A.two j k b q hb hq (fun z => c z.symm) u hu q.s (by simp [Lay.all]) z
def spGive (K : PySem.W.Frag) (CP CS : Addr) : Sp := fun vs H Q _ => ∃ (p l a : Addr) (qs : List Lay) (s : Ie14.St) (k : Nat) (e : Effect) (x : Sheet) (q : Lay), vs = [.ref p, .int (k : Int), .ref a] ∧ PgAt CP CS H p l qs s ∧ Wf s ∧ s.sheets[k]? = some x ∧ qs[k]? = some q ∧
  H a = some (.lst (lN (encE e))) ∧ a ∉ foot p l qs ∧ (∀ b ∈ e.of, b < k) ∧ okE e ∧
  ∀ H' b, PgAt CP CS H' p l (qs.set k { q with e := a }) { s with sheets := (goes s k (setL s.n { x with effect := e } (fun i => e.value s.w s.h i (cellsAt (s.sheets.take k))) (if e = .painted then [] else List.range s.n))).1 } → Only H H' (a :: foot p l qs) → H b = none →
    H' b = some (.lst [.int (((setL s.n { x with effect := e } (fun i => e.value s.w s.h i (cellsAt (s.sheets.take k))) (if e = .painted then [] else List.range s.n)).2.length : Nat) : Int), .int (((goes s k (setL s.n { x with effect := e } (fun i => e.value s.w s.h i (cellsAt (s.sheets.take k))) (if e = .painted then [] else List.range s.n))).2 : Nat) : Int)]) → Q (.ref b) H'
theorem set_cellsAt {l : List Sheet} {k b i : Nat} {x : Sheet} (hb : b < k) : cellsAt (l.set k x) b i = cellsAt (l.take k) b i := by
  unfold cellsAt
  rw [List.getElem?_set_ne (by omega), List.getElem?_take_of_lt hb]
section
variable {P : Program} {w : World} {K : PySem.W.Frag} {mg : Str → Option Value} {base : Heap} {CP CS : Addr}
theorem scGive : FnScope ["self", "k", "effect", "sheet", "changed", "cell", "own"] ["self", "k", "effect"] (defScope sGive) := ⟨rfl, rfl, rfl, by decide +kernel, rfl, by decide +kernel, by decide +kernel⟩
theorem ok_give {f : Addr} {fd : FuncData} (F : Fun K "give_effect" "Page.give_effect" sGive f fd) (TC : TxC K mg CP CS) (TE : TxE K mg) (C0 : CalM P w K mg base CS "is_painted" 1 ["self"] (spIsP K CS)) (C1 : CalM P w K mg base CP "size" 1 ["self"] (spSize CP))
    (C3 : CalM P w K mg base CP "number_by" 4 ["self", "effect", "cell"] (spNumBy K CP CS)) (C4 : CalM P w K mg base CP "put" 1 ["self", "k", "cell", "number", "changed"] (spPut K CP CS)) (C5 : CalM P w K mg base CP "go_on" 5 ["self", "k", "changed"] (spGoOn K CP CS)) :
    FnOk P w K mg base CX0 6 f fd ["self", "k", "effect"] (spGive K CP CS) := by
  refine F.ok scGive (fun vs H Q E h => ?_) (fun cdv A outer s H vs Q E hr h => ?_)
  · obtain ⟨p, l, a, qs, s, k, e, x, q, rfl, _⟩ := h
    rfl
  · obtain ⟨p, l, a, qs, st, k, e, x, q, rfl, G, W, hx, hq, ha, naf, hof, hok, kk⟩ := h
    have hr1 : Room 1 _ := hr.mono (by decide)
    have hr4 : Room 4 _ := hr.mono (by decide)
    refine ⟨_, pss_cons (ps_set (i := 3) scGive.nd rfl (Or.inl rfl) (pe_ix ix_list (pe_fld (pv 0) rfl) (pv 1) (fun _ _ => rfl)))
      (pss_cons (ps_fld (pv 3) (pv 2) rfl)
      (pss_cons (ps_set (i := 4) scGive.nd rfl (Or.inl rfl) pe_dnewT)
      (pss_cons (ps_if (pt_not (pt_val (pe_mth0 (pv 3) TC.clS C0 hr1)))
        (pss_one (ps_for PassesOwn.never rfl (pi_range1 (by rfl) TE.range (pa_cons (pe_mth0 (pv 0) TC.clP C1 hr1) pa_nil)) (pg_name (i := 5) scGive.nd rfl (Or.inl rfl))
          (pss_one (ps_expr (pe_mth (pv 0) TC.clP C4 hr1 (pa_cons (pv 1) (pa_cons (pv 5) (pa_cons (pe_mth (pv 0) TC.clP C3 hr4 (pa_cons (pv 2) (pa_cons (pv 5) pa_nil))) (pa_cons (pv 4) pa_nil))))))))) pss_nil)
      (pss_cons (ps_set (i := 6) scGive.nd rfl (Or.inl rfl) (pe_callB call_len_dT (by rfl) TE.len PySem.boot_len (pa_cons (pv 4) pa_nil)))
      (pss_one (ps_ret (pe_lst (pa_cons (pv 6) (pa_cons (pe_mth (pv 0) TC.clP C5 hr (pa_cons (pv 1) (pa_cons (pv 4) pa_nil))) pa_nil))))))))), ?_⟩
    have hk : k < st.sheets.length := (List.getElem?_eq_some_iff.mp hx).1
    have Cx := W.cells x (List.mem_of_getElem? hx)
    have Wx := W.sh k x hx
    have hn36 := W.n36
    have en : st.n = st.w * st.h := rfl
    obtain ⟨dx, hp⟩ := G.ins
    obtain ⟨⟨dx2, g1⟩, g2, g3, g4⟩ := G.at_ k q x hq hx
    have mq : q ∈ qs := List.mem_of_getElem? hq
    refine ⟨_, rfl, p, CP, dx, _, _, rfl, hp, TC.clP, TC.nS, pF_sheets, _, rfl, l, _, _, _, rfl, rfl, SqL.of G.lst, atI_nat (j := k) (v := V.ref q.s) (by rw [List.getElem?_map, hq]; rfl), ?_⟩
    refine ⟨_, rfl, _, rfl, q.s, CS, dx2, _, rfl, g1, TC.clS, TC.nE, (by show 3 < 1000; decide), ?_⟩
    have h1 : upd H q.s (.ins CS dx2 (putF "effect" (.ref a) (sF q))) q.s = some (.ins CS dx2 (sF { q with e := a })) := by rw [upd_same, sF_put]
    have keep1 : ∀ b o, H b = some o → b ≠ q.s → upd H q.s (.ins CS dx2 (putF "effect" (.ref a) (sF q))) b = some o := fun b o e9 hb => by rw [upd_ne hb]; exact e9
    have G1 := G.seteff hq hx ha naf ⟨dx2, h1⟩ keep1
    have nas : a ≠ q.s := fun z => naf (by rw [z]; exact mem_foot mq (by simp [Lay.all]))
    have nqs : q.s ∈ foot p l qs := mem_foot mq (by simp [Lay.all])
    have O1 : Only H (upd H q.s (.ins CS dx2 (putF "effect" (.ref a) (sF q)))) (a :: foot p l qs) := fun b o e9 hb => keep1 b o e9 fun z => hb (List.mem_cons_of_mem _ (by rw [z]; exact nqs))
    have ha1 := keep1 a _ ha nas
    generalize upd H q.s (.ins CS dx2 (putF "effect" (.ref a) (sF q))) = H1 at *
    intro d nd
    have s2 : Same H1 (upd H1 d (.dT [])) := same_new nd
    have ndH : H d = none := by
      cases q9 : H d with
      | none => rfl
      | some o =>
        by_cases c : d = q.s
        · rw [c, h1] at nd
          cases nd
        · rw [keep1 d o q9 c] at nd
          cases nd
    have G2 := G1.same s2
    have hd2 : upd H1 d (.dT []) d = some (.dT (([] : List (Nat × Nat)).map dKey)) := upd_same
    have ha2 := s2 _ _ ha1
    have h2 := s2 _ _ h1
    have O2 : Only H (upd H1 d (.dT [])) (a :: foot p l qs) := O1.trans (same_only s2)
    generalize upd H1 d (.dT []) = H2 at *
    have W1 : ∀ L, Wf { st with sheets := st.sheets.set k (setL st.n { x with effect := e } (fun i => e.value st.w st.h i (cellsAt (st.sheets.take k))) L).1 } := fun L =>
      W.set hk ⟨setL_len.trans Cx.1, setL_le Cx.2 fun i => value_le (cells_le fun y hy => W.cells y (List.mem_of_mem_take hy))⟩ ⟨hof, hok, setL_news⟩
    have x0 : setL st.n { x with effect := e } (fun i => e.value st.w st.h i (cellsAt (st.sheets.take k))) [] = ({ x with effect := e }, []) := setL_nil _ Wx.nw
    have fsub := foot_set_sub (p := p) (l := l) (a := a) hq
    -- what stands behind the if: own = len(changed), then the change goes on
    have tail : ∀ (L : List Nat) (H3 : Hp) (v5 : Option V), L = (if e = .painted then [] else List.range st.n) → PgAt CP CS H3 p l (qs.set k { q with e := a }) { st with sheets := st.sheets.set k (setL st.n { x with effect := e } (fun i => e.value st.w st.h i (cellsAt (st.sheets.take k))) L).1 } →
        H3 d = some (.dT (((setL st.n { x with effect := e } (fun i => e.value st.w st.h i (cellsAt (st.sheets.take k))) L).2.map fun i => (k, i)).map dKey)) → Only H2 H3 (d :: foot p l (qs.set k { q with e := a })) → L.length ≤ 36 →
        tSeq (tAsg (tCB rLenT (tCons (tVar 4) tNil)) (gName 6)) (tRet (tLst (tCons (tVar 6) (tCons (tMeth CP "go_on" (spGoOn K CP CS) [] E0 (tVar 0) (tCons (tVar 1) (tCons (tVar 4) tNil))) tNil)))) { nx := fun _ H' => Q .non H', rt := Q } [some (.ref p), some (.int (k : Int)), some (.ref a), some (.ref q.s), some (.ref d), v5, none] H3 := by
      intro L H3 v5 hL G3 hd3 O3 hLl
      refine ⟨_, rfl, d, _, rfl, hd3, ?_⟩
      obtain ⟨dx3, hp3⟩ := G3.ins
      refine ⟨_, rfl, _, rfl, p, dx3, _, rfl, hp3, pF_no, _, rfl, _, rfl, p, l, d, _, _, k, List.replicate k [] ++ [(setL st.n { x with effect := e } (fun i => e.value st.w st.h i (cellsAt (st.sheets.take k))) L).2], rfl, G3, W1 L, by show k < (st.sheets.set k _).length; rw [List.length_set]; exact hk, by simp, by rw [dkP_one]; exact hd3, ?_, fun H4 G4 O4 => ?_⟩
      · rw [dkP_one, List.length_map]
        have h9 := setL_clen (n := st.n) (x := { x with effect := e }) (val := fun i => e.value st.w st.h i (cellsAt (st.sheets.take k))) (L := L)
        omega
      · have e1 : (st.sheets.set k (setL st.n { x with effect := e } (fun i => e.value st.w st.h i (cellsAt (st.sheets.take k))) L).1).take (k + 1) = st.sheets.take k ++ [(setL st.n { x with effect := e } (fun i => e.value st.w st.h i (cellsAt (st.sheets.take k))) L).1] := take_set_succ hk
        have e2 : (st.sheets.set k (setL st.n { x with effect := e } (fun i => e.value st.w st.h i (cellsAt (st.sheets.take k))) L).1).drop (k + 1) = st.sheets.drop (k + 1) := List.drop_set_of_lt (by omega)
        refine ⟨(by show 2 ≤ sizeLine; decide), fun b nb => ?_⟩
        have O5 : Only H2 H4 (d :: foot p l (qs.set k { q with e := a })) := O3.trans O4
        have O6 : Only H H4 (a :: foot p l qs) := fun u o e9 hu => O5 u o (O2 u o e9 hu) fun z => by
          rcases List.mem_cons.mp z with z | z
          · exact ne_of_none e9 ndH z
          · exact hu (fsub u z)
        have nbH : H b = none := by
          cases q9 : H b with
          | none => rfl
          | some o =>
            have hb2 : ∃ o', H2 b = some o' := by
              by_cases c : b = q.s
              · rw [c]; exact ⟨_, h2⟩
              · exact ⟨_, s2 _ _ (keep1 b o q9 c)⟩
            obtain ⟨o', hb2⟩ := hb2
            by_cases c : b ∈ d :: foot p l (qs.set k { q with e := a })
            · rcases List.mem_cons.mp c with c | c
              · rw [c, ndH] at q9
                cases q9
              · obtain ⟨u, hu⟩ := G4.tracked c
                rw [nb] at hu
                cases hu
            · rw [O5 b o' hb2 c] at nb
              cases nb
        rw [hL] at *
        refine kk _ b ?_ (O6.trans (same_only (same_new nb))) nbH ?_
        · have G5 := G4
          dsimp only at G5
          rw [e1, e2] at G5
          exact G5.same (same_new nb)
        · rw [upd_same, List.length_map, List.length_map]
          dsimp only
          rw [e1, e2]
          rfl
    refine ⟨_, rfl, q.s, dx2, _, rfl, h2, sF_no, dx2, { q with e := a }, e, rfl, h2, SqL.of ha2, _, rfl, ?_⟩
    by_cases cp : e = .painted
    · refine if_false_of (by simp [cp]) ?_
      refine tail [] H2 none (by rw [if_pos cp]) ?_ ?_ Only.refl (by decide)
      · rw [x0]
        exact G2
      · rw [x0]
        exact hd2
    · refine if_true_of (by simp [cp]) ?_
      obtain ⟨dx3, hp3⟩ := G2.ins
      refine ⟨_, rfl, p, dx3, _, rfl, hp3, pF_no, p, dx3, l, st.w, st.h, rfl, hp3, W.w6, ((st.w * st.h : Nat) : Int), rfl, by omega, by omega, for_range (lo := 0) (n := st.w * st.h)
        (fun m σ H' => ∃ v5 : Option V, σ = [some (.ref p), some (.int (k : Int)), some (.ref a), some (.ref q.s), some (.ref d), v5, none] ∧
          PgAt CP CS H' p l (qs.set k { q with e := a }) { st with sheets := st.sheets.set k (setL st.n { x with effect := e } (fun i => e.value st.w st.h i (cellsAt (st.sheets.take k))) (List.range m)).1 } ∧
          H' d = some (.dT (((setL st.n { x with effect := e } (fun i => e.value st.w st.h i (cellsAt (st.sheets.take k))) (List.range m)).2.map fun i => (k, i)).map dKey)) ∧ Only H2 H' (d :: foot p l (qs.set k { q with e := a }))) ⟨none, rfl, ?_, ?_, Only.refl⟩ ?_ ?_⟩
      · rw [List.range_zero, x0]
        exact G2
      · rw [List.range_zero, x0]
        exact hd2
      · rintro m σ H3 hm ⟨v5, rfl, G3, hd3, O3⟩
        rw [Int.zero_add]
        obtain ⟨dx4, hp4⟩ := G3.ins
        have hkq : (qs.set k { q with e := a })[k]? = some { q with e := a } := List.getElem?_set_self (List.getElem?_eq_some_iff.mp hq).1
        have S3 := G3.at_ k _ _ hkq (List.getElem?_set_self hk)
        have heff : SqL K H3 a (lN (encE e)) := SqL.of S3.eff
        have hne : kindE e ≠ 0 := fun z => cp (kind0.mp z)
        have ev : e.value st.w st.h m (cellsAt (st.sheets.set k (setL st.n { x with effect := e } (fun i => e.value st.w st.h i (cellsAt (st.sheets.take k))) (List.range m)).1)) = e.value st.w st.h m (cellsAt (st.sheets.take k)) :=
          value_congr fun q9 h9 => set_cellsAt (hof _ (needs_in W.w0 W.h0 hm q9 h9).1)
        have hmr : m ∉ List.range m := fun z => Nat.lt_irrefl _ (List.mem_range.mp z)
        have sn := setL_snoc (x := { x with effect := e }) (val := fun i => e.value st.w st.h i (cellsAt (st.sheets.take k))) Cx.1 (show m < st.n from hm) hmr (fun i hi => Nat.lt_trans (List.mem_range.mp hi) hm)
        have sn1 := congrArg Prod.fst sn
        have sn2 := congrArg Prod.snd sn
        refine ⟨_, rfl, p, dx4, _, rfl, hp4, pF_no, _, rfl, _, rfl, _, rfl, p, dx4, _, rfl, hp4, pF_no, _, rfl, _, rfl, p, l, a, _, _, m, e, rfl, G3, (W1 (List.range m)).toWf0, heff, hne, fun b hb => by show b < (st.sheets.set k _).length; rw [List.length_set]; exact Nat.lt_trans (hof b hb) hk, hm, fun H4 s4 => ?_⟩
        refine ⟨_, rfl, p, l, d, _, _, k, m, _, _, _, rfl, G3.same s4, List.getElem?_set_self hk, hm, setL_len.trans Cx.1, s4 _ _ hd3, ?_, ?_, fun H5 G5 hd5 O5 => ?_⟩
        · rw [List.length_map]
          have h9 := setL_clen (n := st.n) (x := { x with effect := e }) (val := fun i => e.value st.w st.h i (cellsAt (st.sheets.take k))) (L := List.range m)
          rw [List.length_range] at h9
          omega
        · intro z
          obtain ⟨i, hi, em⟩ := List.mem_map.mp z
          injection em with _ em
          rw [em] at hi
          exact hmr (setL_sub _ hi)
        · refine ⟨some (.int (m : Int)), rfl, ?_, ?_, (O3.trans (same_only s4)).trans O5⟩
          · have G6 := G5
            dsimp only at G6
            rw [List.set_set, ev] at G6
            rw [List.range_succ, sn1]
            exact G6
          · rw [List.range_succ, sn2, List.map_append]
            dsimp only at hd5
            rw [ev] at hd5
            exact hd5
      · rintro σ H3 ⟨v5, rfl, G3, hd3, O3⟩
        exact tail (List.range st.n) H3 v5 (by rw [if_neg cp]) G3 hd3 O3 (by rw [List.length_range]; omega)
end
end Kp
set_option Elab.async false
set_option linter.all false
set_option maxRecDepth 100000
set_option maxHeartbeats 2000000
namespace Kp
open PySem PySem.Spec PyProof.Rows L2
open Ie14 (Effect Sheet near moveFrom around gap inBox cellsAt touched onFrom made)
abbrev sAdd : Stmt := inClass cPage 7
structure CalC (P : Program) (w : World) (K : PySem.W.Frag) (mg : Str → Option Value) (base : Heap) (C : Addr) (k : Nat) (ps : List Str) (sp : Sp) : Prop where
  ex : ∃ f fd, Mk K C f ∧ FnOk P w K mg base CX0 k f fd ps sp ∧ Binds K fd ps []
theorem pe_mk {X : Cx} {C : Addr} {k : Nat} {x : Str} {ps : List Str} {sp : Sp} {e : Expr} {es : List Expr} {t : TA} {p pos : Pos} (c : CalC X.prog X.w X.K X.mg X.base C k ps sp) (hr : Room (k + 1) X.A) (hg : Gl X x) (hm : X.mg x = some (.ref C)) (ha : PA X (e :: es) t)
    (hdb : (x == ("__debug__" : Str)) = false := by decide) (he : starEach (e :: es) X.env = (false, eval e X.env) :: starEach es X.env := by rfl) (hpl : (backTo pos (starEach es X.env)).any (·.1) = false := by rfl) :
    PE X (.Call (.Name x p) (e :: es) [] pos) (tMake C sp [] E0 t) := by
  obtain ⟨f, fd, h1, h2, h3⟩ := c.ex
  exact pe_make h1 h2 hr hg hm h3 .nil pass0 ha hdb he hpl
def spAddS (K : PySem.W.Frag) (CP CS : Addr) : Sp := fun vs H Q _ => ∃ (p l a : Addr) (qs : List Lay) (s : Ie14.St) (e : Effect), vs = [.ref p, .ref a] ∧ PgAt CP CS H p l qs s ∧ Wf s ∧ s.sheets.length < 10 ∧
  H a = some (.lst (lN (encE e))) ∧ a ∉ foot p l qs ∧ (∀ b ∈ e.of, b < s.sheets.length) ∧ okE e ∧
  ∀ (H' : Hp) (q : Lay), q.e = a → PgAt CP CS H' p l (qs ++ [q]) { s with sheets := s.sheets ++ [⟨e, made s.w s.h s.sheets e, List.range s.n⟩] } → H q.s = none → H q.c = none → H q.f = none → Only H H' [l] → Q (.int ((s.sheets.length : Nat) : Int)) H'
theorem frs_all (n : Nat) (v : List Nat) (h : v.length = n) : ((lN v).map fun _ => V.bl true) = frs n (List.range n) := by
  unfold frs
  apply List.ext_getElem?
  intro j
  by_cases c : j < n
  · simp [lN, c, h]
  · rw [List.getElem?_eq_none (by simp [lN]; omega), List.getElem?_eq_none (by simp; omega)]
theorem PgAt.add {CP CS : Addr} {H H' : Hp} {p l : Addr} {qs : List Lay} {s : Ie14.St} {q : Lay} {x : Sheet} (G : PgAt CP CS H p l qs s) (hS : ShAt CS H' s.n q x) (hl : H' l = some (.lst ((qs.map fun q => V.ref q.s) ++ [V.ref q.s])))
    (keep : ∀ b o, H b = some o → b ≠ l → H' b = some o) (hd : q.all.Nodup) (hf : ∀ u ∈ q.all, u ∉ foot p l qs) : PgAt CP CS H' p l (qs ++ [q]) { s with sheets := s.sheets ++ [x] } := by
  have A := apart_of G.nd
  obtain ⟨dx, hp⟩ := G.ins
  refine ⟨⟨dx, keep _ _ hp A.pl⟩, ?_, ?_, fun k b y hb hy => ?_, ?_⟩
  · rw [hl, List.map_append]
    rfl
  · show (qs ++ [q]).length = (s.sheets ++ [x]).length
    rw [List.length_append, List.length_append, G.len]
    rfl
  · have hy : (s.sheets ++ [x])[k]? = some y := hy
    by_cases c : k < qs.length
    · rw [List.getElem?_append_left c] at hb
      rw [List.getElem?_append_left (by rw [← G.len]; exact c)] at hy
      exact (G.at_ k b y hb hy).keep fun u o hu e => keep u o e fun z => A.l_ b (List.mem_of_getElem? hb) u hu z.symm
    · have ck : k = qs.length := by
        have := (List.getElem?_eq_some_iff.mp hb).1
        rw [List.length_append] at this
        have h1 : [q].length = 1 := rfl
        omega
      rw [mid_get ck.symm] at hb
      rw [mid_get (by rw [← G.len]; exact ck.symm)] at hy
      cases hb
      cases hy
      exact hS
  · have e : foot p l (qs ++ [q]) = foot p l qs ++ q.all := by
      unfold foot
      rw [List.flatMap_append]
      simp [Lay.all]
    rw [e]
    exact List.nodup_append.mpr ⟨G.nd, hd, fun u hu v hv z => hf v hv (by rw [← z]; exact hu)⟩
section
variable {P : Program} {w : World} {K : PySem.W.Frag} {mg : Str → Option Value} {base : Heap} {CP CS : Addr}
theorem scAdd : FnScope ["self", "effect", "numbers", "cell"] ["self", "effect"] (defScope sAdd) := ⟨rfl, rfl, rfl, by decide +kernel, rfl, by decide +kernel, by decide +kernel⟩
theorem ok_add {f : Addr} {fd : FuncData} (F : Fun K "add_sheet" "Page.add_sheet" sAdd f fd) (TC : TxC K mg CP CS) (TE : TxE K mg) (C0 : CalC P w K mg base CS 1 ["self", "effect", "numbers"] (spSInit K CS)) (C1 : CalM P w K mg base CP "size" 1 ["self"] (spSize CP))
    (C3 : CalM P w K mg base CP "number_by" 4 ["self", "effect", "cell"] (spNumBy K CP CS)) : FnOk P w K mg base CX0 5 f fd ["self", "effect"] (spAddS K CP CS) := by
  refine F.ok scAdd (fun vs H Q E h => ?_) (fun cdv A outer s H vs Q E hr h => ?_)
  · obtain ⟨p, l, a, qs, s, e, rfl, _⟩ := h
    rfl
  · obtain ⟨p, l, a, qs, st, e, rfl, G, W, h10, ha, naf, hof, hok, kk⟩ := h
    have hr1 : Room 1 _ := hr.mono (by decide)
    have hr2 : Room 2 _ := hr.mono (by decide)
    refine ⟨_, pss_cons (ps_setLc (i := 2) (own := [("cell", 3)]) (g := gName 3) (tt := tYes) rfl scAdd.nd rfl rfl (sw_true rfl rfl rfl (by decide +kernel)) (pi_range1 (by rfl) TE.range (pa_cons (pe_mth0 (pv 0) TC.clP C1 hr1) pa_nil)) (blkOk_by (own := [("cell", 3)]) (N := ["self", "effect", "numbers", "cell"]) (sc := defScope sAdd) (by decide +kernel))
          (fun _ _ _ _ _ => pg_name (i := 3) scAdd.nd rfl (Or.inl rfl)) (fun _ _ _ _ _ => pts_nil) (fun _ _ _ _ _ => pe_int))
      (pss_cons (ps_if (pt_cmpR op_ne (pe_ix ix_list (pv 1) pe_int (fun _ _ => rfl)) (pe_gi TE.painted rfl) (nomark _))
        (pss_one (ps_setLc (i := 2) (own := [("cell", 3)]) (g := gName 3) (tt := tYes) (te := tMeth CP "number_by" (spNumBy K CP CS) [] E0 (tVar 0) (tCons (tVar 1) (tCons (tVar 3) tNil))) rfl scAdd.nd rfl rfl (sw_true rfl rfl rfl (by decide +kernel)) (pi_range1 (by rfl) TE.range (pa_cons (pe_mth0 (pv 0) TC.clP C1 hr1) pa_nil)) (blkOk_by (own := [("cell", 3)]) (N := ["self", "effect", "numbers", "cell"]) (sc := defScope sAdd) (by decide +kernel))
          (fun _ _ _ _ _ => pg_name (i := 3) scAdd.nd rfl (Or.inl rfl)) (fun _ _ _ _ _ => pts_nil) (fun _ _ _ _ _ => pe_mth (pv 0) TC.clP C3 hr (pa_cons (pv 1) (pa_cons (pv 3) pa_nil))))) pss_nil)
      (pss_cons (ps_expr (pe_bm PySem.F.plainAttrs_list PySem.F.slot_list_append PySem.F.type_list_append mt_append (pe_fld (pv 0) rfl) (pa_cons (pe_mk C0 hr2 rfl TC.gS (pa_cons (pv 1) (pa_cons (pv 2) pa_nil))) pa_nil)))
      (pss_one (ps_ret (pe_op op_sub (pe_callB call_len_seq (by rfl) TE.len PySem.boot_len (pa_cons (pe_fld (pv 0) rfl) pa_nil)) pe_int))))), ?_⟩
    have hn36 := W.n36
    have en : st.n = st.w * st.h := rfl
    have esz : sizeLine = 16777216 := sizeLine_eq
    obtain ⟨dx, hp⟩ := G.ins
    have tail : ∀ (H2 : Hp) (c : Addr) (v3 : Option V), Same H H2 → H c = none → H2 c = some (.lst (lN (made st.w st.h st.sheets e))) →
        tSeq (tDrop (tBM K "list" rAppend (tFld K (tVar 0) "sheets") (tCons (tMake CS (spSInit K CS) [] E0 (tCons (tVar 1) (tCons (tVar 2) tNil))) tNil)))
          (tRet (tOp (rI0 fun i j => .int (i - j)) (tCB (fun xs H Q => ∃ p ys, xs = [.ref p] ∧ (SqL K H p ys ∨ SqT K H p ys) ∧ Q (.int ys.length) H) (tCons (tFld K (tVar 0) "sheets") tNil)) (tC (.int 1)))) { nx := fun _ H' => Q .non H', rt := Q } [some (.ref p), some (.ref a), some (.ref c), v3] H2 := by
      intro H2 c v3 s2 nc hc
      refine ⟨_, rfl, p, CP, dx, _, _, rfl, s2 _ _ hp, TC.clP, TC.nS, pF_sheets, .inl ⟨rfl, _, SqL.of (s2 _ _ G.lst)⟩, _, rfl, _, rfl, fun x dx1 nx ndx ndxx => ?_⟩
      have s3 : Same H2 (upd (upd H2 dx1 (.own x)) x (.ins CS dx1 [])) := fun b o e9 => by
        rw [upd_ne (ne_of_none e9 nx), upd_ne (ne_of_none e9 ndx)]
        exact e9
      have hml : (made st.w st.h st.sheets e).length = st.n := by
        unfold made
        rw [List.length_map, List.length_range]
        rfl
      refine ⟨x, dx1, a, c, _, rfl, upd_same, s3 _ _ hc, by rw [lN_length, hml]; omega, fun H4 f hx4 nf hf4 O4 => ⟨rfl, ?_⟩⟩
      have nfx : f ≠ x := fun z => by rw [z, upd_same] at nf; cases nf
      have s4 : ∀ b o, H2 b = some o → H4 b = some o := fun b o e9 => O4 b o (s3 b o e9) fun z => by
        rw [List.mem_singleton.mp z, nx] at e9
        cases e9
      have s5 : Same H H4 := fun b o e9 => s4 b o (s2 b o e9)
      refine ⟨l, _, _, rfl, rfl, s5 _ _ G.lst, by rw [List.length_map, G.len, esz]; omega, ?_⟩
      have A := apart_of G.nd
      have hxH : H x = none := Same.free s2 nx
      have hfH : H f = none := Same.free (Same.trans s2 s3) nf
      have keep : ∀ b o, H b = some o → b ≠ l → upd H4 l (.lst ((qs.map fun q => V.ref q.s) ++ [V.ref x])) b = some o := fun b o e9 hb => by
        rw [upd_ne hb]
        exact s5 b o e9
      have nlx : x ≠ l := fun z => by rw [z, G.lst] at hxH; cases hxH
      have nlf : f ≠ l := fun z => by rw [z, G.lst] at hfH; cases hfH
      have nlc : c ≠ l := fun z => by rw [z, G.lst] at nc; cases nc
      have nla : a ≠ l := fun z => naf (by rw [z]; exact List.mem_cons_of_mem _ (List.mem_cons_self ..))
      have nxa : x ≠ a := fun z => by rw [z, ha] at hxH; cases hxH
      have nca : c ≠ a := fun z => by rw [z, ha] at nc; cases nc
      have nfa : f ≠ a := fun z => by rw [z, ha] at hfH; cases hfH
      have ncx : c ≠ x := fun z => by rw [z, nx] at hc; cases hc
      have ncf : c ≠ f := fun z => by rw [← z, s3 _ _ hc] at nf; cases nf
      have S : ShAt CS (upd H4 l (.lst ((qs.map fun q => V.ref q.s) ++ [V.ref x]))) st.n ⟨x, a, c, f⟩ ⟨e, made st.w st.h st.sheets e, List.range st.n⟩ := by
        refine ⟨⟨dx1, ?_⟩, ?_, ?_, ?_⟩
        · rw [upd_ne nlx]; exact hx4
        · rw [upd_ne nla]; exact s5 _ _ ha
        · rw [upd_ne nlc]; exact s4 _ _ hc
        · rw [upd_ne nlf]
          exact hf4.trans (congrArg (fun q => some (HO.lst q)) (frs_all st.n _ hml))
      have nof : ∀ u, H u = none → u ∉ foot p l qs := fun u hu z => by
        obtain ⟨o, ho⟩ := G.tracked z
        rw [hu] at ho
        cases ho
      have G5 := G.add S upd_same keep (by simp [Lay.all]; exact ⟨⟨nxa, fun z => ncx z.symm, fun z => nfx z.symm⟩, ⟨fun z => nca z.symm, fun z => nfa z.symm⟩, ncf⟩) (fun u hu => by
        simp [Lay.all] at hu
        rcases hu with z | z | z | z <;> rw [z]
        · exact nof _ hxH
        · exact naf
        · exact nof _ nc
        · exact nof _ hfH)
      obtain ⟨dx5, hp5⟩ := G5.ins
      refine ⟨_, rfl, p, CP, dx5, _, _, rfl, hp5, TC.clP, TC.nS, pF_sheets, l, _, rfl, .inl (SqL.of upd_same), _, _, rfl, rfl, ?_⟩
      have e9 : ((((qs.map fun q => V.ref q.s) ++ [V.ref x]).length : Nat) : Int) - 1 = ((st.sheets.length : Nat) : Int) := by
        rw [List.length_append, List.length_map, G.len]
        show ((st.sheets.length + 1 : Nat) : Int) - 1 = _
        omega
      show Q (.int (((((qs.map fun q => V.ref q.s) ++ [V.ref x]).length : Nat) : Int) - 1)) _
      rw [e9]
      exact kk _ ⟨x, a, c, f⟩ rfl G5 hxH nc hfH (fun b o e9 hb => keep b o e9 fun z => hb (by rw [z]; exact List.mem_singleton.mpr rfl))
    refine ⟨_, rfl, p, dx, _, rfl, hp, pF_no, p, dx, l, st.w, st.h, rfl, hp, W.w6, ((st.w * st.h : Nat) : Int), rfl, by omega, by omega, fun D hD => lc_range (lo := 0) (n := st.w * st.h) (fun j H' => H' = upd H D (.lst (lN (List.replicate j 0)))) rfl ?_ ?_⟩
    · rintro j H' hj rfl
      refine ⟨rfl, tYes_if ?_⟩
      refine ⟨_, upd_same, by rw [lN_length, List.length_replicate, esz]; omega, ?_⟩
      rw [upd_upd, List.replicate_succ', lN_snoc]
      rfl
    · rintro H' rfl
      have s1 : Same H (upd H D (.lst (lN (List.replicate (st.w * st.h) 0)))) := same_new hD
      have ha1 : SqL K (upd H D (.lst (lN (List.replicate (st.w * st.h) 0)))) a (lN (kindE e :: tailE e)) := by rw [← enc_kind]; exact SqL.of (s1 _ _ ha)
      refine ⟨_, rfl, a, _, _, _, rfl, rfl, ha1, atI_nat (j := 0) rfl, rfl, _, rfl, ?_⟩
      by_cases cp : kindE e = 0
      · refine if_false_of (by simp [cp]) ?_
        refine tail _ D none s1 hD ?_
        rw [upd_same]
        have e9 : made st.w st.h st.sheets e = List.replicate (st.w * st.h) 0 := by
          unfold made
          rw [kind0.mp cp]
          show (List.range (st.w * st.h)).map (fun _ => 0) = _
          rw [List.map_const', List.length_range]
        rw [e9]
      · refine if_true_of (by simp; omega) ?_
        have hp1 := s1 _ _ hp
        have G1 := G.same s1
        generalize upd H D (.lst (lN (List.replicate (st.w * st.h) 0))) = H1 at *
        refine ⟨_, rfl, p, dx, _, rfl, hp1, pF_no, p, dx, l, st.w, st.h, rfl, hp1, W.w6, ((st.w * st.h : Nat) : Int), rfl, by omega, by omega, fun D2 hD2 => lc_range (lo := 0) (n := st.w * st.h) (fun j H' => Same H1 H' ∧ H' D2 = some (.lst (lN ((List.range j).map fun i => e.value st.w st.h i (cellsAt st.sheets))))) ⟨same_new hD2, upd_same⟩ ?_ ?_⟩
        · rintro j H' hj ⟨s2, hD3⟩
          rw [Int.zero_add]
          refine ⟨rfl, tYes_if ?_⟩
          refine ⟨_, rfl, p, dx, _, rfl, s2 _ _ hp1, pF_no, _, rfl, _, rfl, p, l, a, qs, st, j, e, rfl, G1.same s2, W.toWf0, by rw [enc_kind]; exact s2.seq ha1, cp, hof, hj, fun H3 s3 => ?_⟩
          refine ⟨_, s3 _ _ hD3, by rw [lN_length, List.length_map, List.length_range, esz]; omega, fun b o e9 => ?_, ?_⟩
          · rw [upd_ne (ne_of_none e9 hD2)]
            exact s3 _ _ (s2 _ _ e9)
          · rw [upd_same, List.range_succ, List.map_append]
            show some (HO.lst (lN _ ++ [V.int _])) = some (HO.lst (lN (_ ++ [_])))
            rw [lN_snoc]
        · rintro H' ⟨s2, hD3⟩
          exact tail H' D2 none (Same.trans s1 s2) (Same.free s1 hD2) hD3
end
end Kp
set_option Elab.async false
set_option linter.all false
set_option maxRecDepth 100000
set_option maxHeartbeats 2000000
namespace Kp
open Ie14 (Effect Sheet near moveFrom around gap inBox cellsAt touched onFrom made differ effectOf again)
/-! ### the calls of the specification, in the program's order of work -/
def paintL (s : Ie14.St) (k n : Nat) (L : List Nat) : Ie14.St × List Int := match s.sheets[k]? with
  | none => (s, [-2])
  | some x => if x.effect ≠ .painted then (s, [-6]) else ({ s with sheets := (goes s k (setL s.n x (fun _ => n) L)).1 }, Ie14.ints [(setL s.n x (fun _ => n) L).2.length, (goes s k (setL s.n x (fun _ => n) L)).2])
theorem contains_filter {n i : Nat} {P : Nat → Bool} (hi : i < n) : ((List.range n).filter P).contains i = P i := by
  rw [Bool.eq_iff_iff]
  simp [hi]
theorem zip_congr {x : List Nat} {f g : Nat × Nat → Nat} (h : ∀ i v, x[i]? = some v → f (v, i) = g (v, i)) : x.zipIdx.map f = x.zipIdx.map g := by
  refine List.map_congr_left fun q hq => ?_
  obtain ⟨v, i⟩ := q
  exact h i v (List.mem_zipIdx_iff_getElem?.mp hq)
theorem setL_box {n : Nat} {x : Sheet} {v : Nat} {P : Nat → Bool} (hl : x.cells.length = n) :
    setL n x (fun _ => v) ((List.range n).filter P) = (⟨x.effect, x.cells.zipIdx.map (fun q => if P q.2 then v else q.1), Ie14.news x.news (differ (x.cells.zipIdx.map (fun q => if P q.2 then v else q.1)) x.cells n) n⟩, differ (x.cells.zipIdx.map (fun q => if P q.2 then v else q.1)) x.cells n) := by
  have e1 : (x.cells.zipIdx.map fun q => if ((List.range n).filter P).contains q.2 then v else q.1) = x.cells.zipIdx.map (fun q => if P q.2 then v else q.1) := by
    refine zip_congr fun i u hu => ?_
    have hi : i < n := by rw [← hl]; exact (List.getElem?_eq_some_iff.mp hu).1
    dsimp only
    rw [contains_filter hi]
  have e2 : (((List.range n).filter P).filter fun i => (x.cells.zipIdx.map (fun q => if P q.2 then v else q.1)).getD i 0 != x.cells.getD i 0) = differ (x.cells.zipIdx.map (fun q => if P q.2 then v else q.1)) x.cells n := by
    unfold differ
    rw [List.filter_filter]
    refine List.filter_congr fun i hi => ?_
    have hi' : i < x.cells.length := by rw [hl]; exact List.mem_range.mp hi
    have e3 : (x.cells.zipIdx.map (fun q => if P q.2 then v else q.1)).getD i 0 = if P i then v else x.cells.getD i 0 := by
      simp [List.getD, hi']
    cases hP : P i with
    | true => simp
    | false =>
      rw [e3, hP]
      simp
  show (Sheet.mk x.effect (x.cells.zipIdx.map fun q => if ((List.range n).filter P).contains q.2 then v else q.1) (Ie14.news x.news (((List.range n).filter P).filter fun i => (x.cells.zipIdx.map fun q => if ((List.range n).filter P).contains q.2 then v else q.1).getD i 0 != x.cells.getD i 0) n), (((List.range n).filter P).filter fun i => (x.cells.zipIdx.map fun q => if ((List.range n).filter P).contains q.2 then v else q.1).getD i 0 != x.cells.getD i 0)) = _
  rw [e1, e2]
theorem paint_eq {s : Ie14.St} (W : Wf s) (k n : Nat) (P : Nat → Bool) : Ie14.paint s k (fun i o => if P i then n else o) = paintL s k n ((List.range s.n).filter P) := by
  unfold Ie14.paint paintL
  cases hx : s.sheets[k]? with
  | none => rfl
  | some x =>
    dsimp only
    by_cases c : x.effect ≠ .painted
    · rw [if_pos c, if_pos c]
    · rw [if_neg c, if_neg c, setL_box (W.cells x (List.mem_of_getElem? hx)).1]
      rfl
theorem paint_dot {s : Ie14.St} (W : Wf s) {k x y n : Nat} (hx : x < s.w) (hy : y < s.h) : Ie14.paint s k (fun i o => if i = y * s.w + x then n else o) = paintL s k n ((List.range s.n).filter (inBox s.w x y 1 1)) := by
  rw [← paint_eq W]
  congr 1
  funext i o
  have e : (i = y * s.w + x) ↔ inBox s.w x y 1 1 i = true := by
    unfold inBox
    simp only [Bool.and_eq_true, decide_eq_true_eq]
    constructor
    · intro h
      have h1 : i % s.w = x := by rw [h, Nat.mul_comm, Nat.mul_add_mod, Nat.mod_eq_of_lt hx]
      have h2 : i / s.w = y := by rw [h, Nat.mul_comm, Nat.mul_add_div (by omega), Nat.div_eq_of_lt hx, Nat.add_zero]
      omega
    · rintro ⟨h1, h2, h3, h4⟩
      have h5 : i % s.w = x := by omega
      have h6 : i / s.w = y := by omega
      have := Nat.div_add_mod i s.w
      rw [h5, h6, Nat.mul_comm] at this
      exact this.symm
  by_cases c : i = y * s.w + x
  · rw [if_pos c, if_pos (e.mp c)]
  · rw [if_neg c, if_neg (fun z => c (e.mpr z))]
/-- what effect gives the sheet -/
def giveR (s : Ie14.St) (k : Nat) (x : Sheet) (e : Effect) : Sheet × List Nat := setL s.n { x with effect := e } (fun i => e.value s.w s.h i (cellsAt (s.sheets.take k))) (if e = .painted then [] else List.range s.n)
theorem effect_eq {s : Ie14.St} (W : Wf s) {k : Nat} {x : Sheet} {e : Effect} (hx : s.sheets[k]? = some x) :
    (let v := if e = .painted then x.cells else made s.w s.h (s.sheets.take k) e
     let c := differ v x.cells s.n
     let q := Ie14.setSheet s k { x with effect := e, cells := v } c
     ((q.1, Ie14.ints [c.length, q.2]) : Ie14.St × List Int)) = ({ s with sheets := (goes s k (giveR s k x e)).1 }, Ie14.ints [(giveR s k x e).2.length, (goes s k (giveR s k x e)).2]) := by
  have Cx := W.cells x (List.mem_of_getElem? hx)
  have Wx := W.sh k x hx
  unfold giveR
  by_cases c : e = .painted
  · rw [if_pos c, if_pos c, setL_nil (x := { x with effect := e }) _ Wx.nw]
    have e1 : differ x.cells x.cells s.n = [] := by
      unfold differ
      rw [List.filter_eq_nil_iff]
      intro i _
      simp
    have e2 : Ie14.news x.news [] s.n = x.news := by
      have := congrArg (fun q => q.1.news) (setL_nil (x := x) (n := s.n) (fun _ => 0) Wx.nw)
      exact this
    dsimp only
    rw [e1]
    unfold Ie14.setSheet goes
    dsimp only
    rw [e2]
  · rw [if_neg c, if_neg c]
    have hml : (made s.w s.h (s.sheets.take k) e).length = s.n := by unfold made; simp; rfl
    have e1 : (x.cells.zipIdx.map fun q => if (List.range s.n).contains q.2 then e.value s.w s.h q.2 (cellsAt (s.sheets.take k)) else q.1) = made s.w s.h (s.sheets.take k) e := by
      apply List.ext_getElem?
      intro j
      by_cases hj : j < s.n
      · have hj' : j < x.cells.length := by rw [Cx.1]; exact hj
        have hj2 : j < s.w * s.h := hj
        simp [hj', hj, hj2, made]
      · rw [List.getElem?_eq_none (by simp; rw [Cx.1]; omega), List.getElem?_eq_none (by rw [hml]; omega)]
    have e2 : setL s.n { x with effect := e } (fun i => e.value s.w s.h i (cellsAt (s.sheets.take k))) (List.range s.n) = (⟨e, made s.w s.h (s.sheets.take k) e, Ie14.news x.news (differ (made s.w s.h (s.sheets.take k) e) x.cells s.n) s.n⟩, differ (made s.w s.h (s.sheets.take k) e) x.cells s.n) := by
      show (Sheet.mk e (x.cells.zipIdx.map fun q => if (List.range s.n).contains q.2 then e.value s.w s.h q.2 (cellsAt (s.sheets.take k)) else q.1) (Ie14.news x.news ((List.range s.n).filter fun i => (x.cells.zipIdx.map fun q => if (List.range s.n).contains q.2 then e.value s.w s.h q.2 (cellsAt (s.sheets.take k)) else q.1).getD i 0 != x.cells.getD i 0) s.n), _) = _
      rw [e1]
      rfl
    rw [e2]
    rfl
/-! ### the form is kept -/
def GoodL (n : Nat) (l : List Sheet) : Prop := ∀ (j : Nat) (x : Sheet), l[j]? = some x → (x.cells.length = n ∧ ∀ v ∈ x.cells, v ≤ 255) ∧ WfS n j x
theorem GoodL.cells {n : Nat} {l : List Sheet} (h : GoodL n l) : ∀ x ∈ l, x.cells.length = n ∧ ∀ v ∈ x.cells, v ≤ 255 := fun x hx => by
  obtain ⟨j, hj⟩ := List.mem_iff_getElem?.mp hx
  exact (h j x hj).1
theorem Wf.good {s : Ie14.St} (W : Wf s) : GoodL s.n s.sheets := fun j x h => ⟨W.cells x (List.mem_of_getElem? h), W.sh j x h⟩
theorem GoodL.mid {n : Nat} {l r : List Sheet} {x x' : Sheet} (h : GoodL n (l ++ x :: r)) (hc : x'.cells.length = n ∧ ∀ v ∈ x'.cells, v ≤ 255) (hs : WfS n l.length x') : GoodL n (l ++ x' :: r) := by
  intro j y hj
  by_cases c : j = l.length
  · subst c
    rw [mid_get rfl] at hj
    cases hj
    exact ⟨hc, hs⟩
  · refine h j y ?_
    have e := mid_set (a := l) (r := r) (x := x) (y := x') rfl
    rw [← e, List.getElem?_set_ne (fun z => c z.symm)] at hj
    exact hj
theorem onFrom_good {w h : Nat} : ∀ (r l : List Sheet) (c : Ie14.Changes), GoodL (w * h) (l ++ r) → GoodL (w * h) (onFrom w h l c r).1 ∧ (onFrom w h l c r).1.length = l.length + r.length
  | [], l, c, g => by
    rw [List.append_nil] at g
    exact ⟨g, rfl⟩
  | x :: r, l, c, g => by
    obtain ⟨hc, hs⟩ := g l.length x (mid_get rfl)
    have gl : ∀ y ∈ l, y.cells.length = w * h ∧ ∀ v ∈ y.cells, v ≤ 255 := fun y hy => g.cells y (List.mem_append_left _ hy)
    have g2 : GoodL (w * h) ((l ++ [(again w h l x (touched w h c x.effect)).1]) ++ r) := by
      rw [List.append_assoc]
      refine g.mid ?_ ?_
      · rw [again_eq]
        exact ⟨setL_len.trans hc.1, setL_le hc.2 fun i => value_le (cells_le gl)⟩
      · rw [again_eq]
        exact ⟨hs.of, hs.ok, setL_news⟩
    obtain ⟨i1, i2⟩ := onFrom_good r (l ++ [(again w h l x (touched w h c x.effect)).1]) (c ++ [(again w h l x (touched w h c x.effect)).2]) g2
    refine ⟨i1, i2.trans ?_⟩
    rw [List.length_append, List.length_cons]
    show l.length + 1 + r.length = l.length + (r.length + 1)
    omega
theorem goes_wf {s : Ie14.St} (W : Wf s) {k : Nat} {x : Sheet} {r : Sheet × List Nat} (hx : s.sheets[k]? = some x) (hc : r.1.cells.length = s.n ∧ ∀ v ∈ r.1.cells, v ≤ 255) (hs : WfS s.n k r.1) : Wf { s with sheets := (goes s k r).1 } := by
  have hk : k < s.sheets.length := (List.getElem?_eq_some_iff.mp hx).1
  have el : (s.sheets.take k).length = k := by rw [List.length_take]; omega
  have es : s.sheets = s.sheets.take k ++ x :: s.sheets.drop (k + 1) := by
    obtain ⟨lt, e⟩ := List.getElem?_eq_some_iff.mp hx
    rw [← e, ← List.drop_eq_getElem_cons lt, List.take_append_drop]
  have g : GoodL s.n ((s.sheets.take k ++ [r.1]) ++ s.sheets.drop (k + 1)) := by
    rw [List.append_assoc]
    have g0 := W.good
    rw [es] at g0
    exact g0.mid hc (by rw [el]; exact hs)
  obtain ⟨i1, i2⟩ := onFrom_good (w := s.w) (h := s.h) (s.sheets.drop (k + 1)) (s.sheets.take k ++ [r.1]) (List.replicate k [] ++ [r.2]) g
  refine ⟨⟨W.w0, W.w6, W.h0, W.h6, ?_, fun y hy => i1.cells y hy⟩, fun j y hj => (i1 j y hj).2⟩
  show (goes s k r).1.length ≤ 10
  unfold goes
  rw [i2, List.length_append, el, List.length_drop]
  have := W.ten
  have h1 : [r.1].length = 1 := rfl
  omega
theorem paintL_wf {s : Ie14.St} (W : Wf s) {k n : Nat} {L : List Nat} (hn : n ≤ 255) : Wf (paintL s k n L).1 := by
  unfold paintL
  cases hx : s.sheets[k]? with
  | none => exact W
  | some x =>
    dsimp only
    split
    · exact W
    · have Cx := W.cells x (List.mem_of_getElem? hx)
      have Wx := W.sh k x hx
      exact goes_wf W hx ⟨setL_len.trans Cx.1, setL_le Cx.2 fun _ => hn⟩ ⟨Wx.of, Wx.ok, setL_news⟩
theorem step_wf {s : Ie14.St} (W : Wf s) (c : Ie14.Call) : Wf (Ie14.step s c).1 := by
  cases c with
  | page w h =>
    simp only [Ie14.step]
    split
    · exact W
    · rename_i c
      refine ⟨⟨by show 0 < w; omega, by show w ≤ 6; omega, by show 0 < h; omega, by show h ≤ 6; omega, Nat.zero_le _, fun x hx => by cases hx⟩, fun k x h => by cases h⟩
  | sheet l =>
    simp only [Ie14.step]
    split
    · exact W
    · rename_i h10
      cases he : effectOf s.sheets.length l with
      | none => exact W
      | some e =>
        obtain ⟨_, hof, hok⟩ := effectOf_some he
        have hml : (made s.w s.h s.sheets e).length = s.n := by unfold made; simp; rfl
        have hmv : ∀ v ∈ made s.w s.h s.sheets e, v ≤ 255 := fun v hv => by
          unfold made at hv
          obtain ⟨i, _, rfl⟩ := List.mem_map.mp hv
          exact value_le (cellsAt_le W.toWf0)
        refine ⟨⟨W.w0, W.w6, W.h0, W.h6, ?_, fun x hx => ?_⟩, fun k x hk => ?_⟩
        · show (s.sheets ++ [_]).length ≤ 10
          have h10' : ¬ 10 ≤ s.sheets.length := h10
          rw [List.length_append]
          show s.sheets.length + 1 ≤ 10
          omega
        · rcases List.mem_append.mp (show x ∈ s.sheets ++ [_] from hx) with h | h
          · exact W.cells x h
          · rw [List.mem_singleton.mp h]
            exact ⟨hml, hmv⟩
        · have hk : (s.sheets ++ [_])[k]? = some x := hk
          by_cases c : k < s.sheets.length
          · rw [List.getElem?_append_left c] at hk
            exact W.sh k x hk
          · have ck : k = s.sheets.length := by
              have := (List.getElem?_eq_some_iff.mp hk).1
              rw [List.length_append] at this
              have : k < s.sheets.length + 1 := this
              omega
            rw [mid_get ck.symm] at hk
            cases hk
            refine ⟨by rw [ck]; exact hof, hok, ?_⟩
            show List.range s.n = (List.range s.n).filter fun i => (List.range s.n).contains i
            rw [List.filter_eq_self.mpr]
            intro i hi
            simpa using List.mem_range.mp hi
  | dot k x y n =>
    simp only [Ie14.step]
    split
    · exact W
    · split
      · exact W
      · rename_i c1 c2
        have e := paint_dot W (k := k) (x := x) (y := y) (n := n) (by omega) (by omega)
        rw [e]
        exact paintL_wf W (by omega)
  | box k x y u v n =>
    simp only [Ie14.step]
    split
    · exact W
    · rename_i c1
      rw [paint_eq W]
      exact paintL_wf W (by omega)
  | effect k l =>
    simp only [Ie14.step]
    cases hx : s.sheets[k]? with
    | none => exact W
    | some x =>
      dsimp only
      cases he : effectOf k l with
      | none => exact W
      | some e =>
        dsimp only
        obtain ⟨_, hof, hok⟩ := effectOf_some he
        have e1 := congrArg Prod.fst (effect_eq (e := e) W hx)
        dsimp only at e1
        rw [e1]
        have Cx := W.cells x (List.mem_of_getElem? hx)
        exact goes_wf W hx ⟨setL_len.trans Cx.1, setL_le Cx.2 fun i => value_le (cells_le fun y hy => W.cells y (List.mem_of_mem_take hy))⟩ ⟨hof, hok, setL_news⟩
  | cells k => exact W
  | cell k x y => exact W
  | look k =>
    simp only [Ie14.step]
    cases hx : s.sheets[k]? with
    | none => exact W
    | some x =>
      have hk : k < s.sheets.length := (List.getElem?_eq_some_iff.mp hx).1
      have Wx := W.sh k x hx
      exact W.set hk (W.cells x (List.mem_of_getElem? hx)) ⟨Wx.of, Wx.ok, by show [] = (List.range s.n).filter fun i => ([] : List Nat).contains i; simp⟩
  | needs k x y => exact W
  | list => exact W
theorem init_wf : Wf Ie14.init := ⟨⟨by decide, by decide, by decide, by decide, by decide, fun x hx => by cases hx⟩, fun k x h => by cases h⟩
end Kp
set_option Elab.async false
set_option linter.all false
set_option maxRecDepth 100000
set_option maxHeartbeats 2000000
namespace Kp
open PySem PySem.Spec PyProof.Rows L2
open Ie14 (Effect Sheet near moveFrom around gap inBox cellsAt touched onFrom made effectOf)
abbrev sSide : Stmt := top 30
abbrev sAPage : Stmt := top 31
abbrev sASheet : Stmt := top 32
abbrev sADot : Stmt := top 33
abbrev sABox : Stmt := top 34
abbrev sAPaint : Stmt := top 35
abbrev sAEff : Stmt := top 36
structure TxK (mg : Str → Option Value) : Prop where
  side : GI mg "MOST_SIDE" 6
  sheets : GI mg "MOST_SHEETS" 10
  noPlace : GI mg "NO_PLACE" (-1)
  noSheet : GI mg "NO_SHEET" (-2)
  noValue : GI mg "NO_VALUE" (-3)
  noRoom : GI mg "NO_ROOM" (-5)
  notPainted : GI mg "NOT_PAINTED" (-6)
/-- what a call leaves: the page as r says, a new list with the answer, all else as it was -/
def Post (CP CS : Addr) (H : Hp) (p l : Addr) (qs : List Lay) (ex : List Addr) (r : Ie14.St × List Int) (Q : VK) : Prop :=
  ∀ H' b l' qs', PgAt CP CS H' p l' qs' r.1 → H' b = some (.lst (r.2.map V.int)) → H b = none → b ∉ foot p l' qs' → (∀ u o, H u = some o → u ∉ foot p l qs → u ∉ ex → H' u = some o ∧ u ∉ foot p l' qs') → Q (.ref b) H'
theorem Post.keep {CP CS : Addr} {H H1 : Hp} {p l b : Addr} {qs : List Lay} {ex : List Addr} {s : Ie14.St} {xs : List Int} {Q : VK} (k : Post CP CS H p l qs ex (s, xs) Q) (G : PgAt CP CS H p l qs s) (s1 : Same H H1) (nb : H1 b = none) : Q (.ref b) (upd H1 b (.lst (xs.map V.int))) := by
  have s2 : Same H (upd H1 b (.lst (xs.map V.int))) := Same.trans s1 (same_new nb)
  have nbH := Same.free s1 nb
  refine k _ b l qs (G.same s2) upd_same nbH (fun z => ?_) fun u o e hu _ => ⟨s2 u o e, hu⟩
  obtain ⟨o, ho⟩ := G.tracked z
  rw [nbH] at ho
  cases ho
def spSide : Sp := fun vs H Q _ => ∃ n : Nat, vs = [.int (n : Int)] ∧ Q (.bl (decide (1 ≤ n ∧ n ≤ 6))) H
def spAPage (CP CS : Addr) : Sp := fun vs H Q _ => ∃ (p l : Addr) (qs : List Lay) (s : Ie14.St) (w h : Nat), vs = [.ref p, .int (w : Int), .int (h : Int)] ∧ PgAt CP CS H p l qs s ∧ Post CP CS H p l qs [] (Ie14.step s (.page w h)) Q
def spASheet (CP CS : Addr) : Sp := fun vs H Q _ => ∃ (p l a : Addr) (qs : List Lay) (s : Ie14.St) (t : List Nat), vs = [.ref p, .ref a] ∧ PgAt CP CS H p l qs s ∧ Wf s ∧ H a = some (.lst (lN t)) ∧ t.length ≤ 1000 ∧ a ∉ foot p l qs ∧ Post CP CS H p l qs [a] (Ie14.step s (.sheet t)) Q
def spADot (CP CS : Addr) : Sp := fun vs H Q _ => ∃ (p l : Addr) (qs : List Lay) (s : Ie14.St) (k x y n : Nat), vs = [.ref p, .int (k : Int), .int (x : Int), .int (y : Int), .int (n : Int)] ∧ PgAt CP CS H p l qs s ∧ Wf s ∧ x ≤ 4294967295 ∧ y ≤ 4294967295 ∧ Post CP CS H p l qs [] (Ie14.step s (.dot k x y n)) Q
def spABox (CP CS : Addr) : Sp := fun vs H Q _ => ∃ (p l : Addr) (qs : List Lay) (s : Ie14.St) (k x y u v n : Nat), vs = [.ref p, .int (k : Int), .int (x : Int), .int (y : Int), .int (u : Int), .int (v : Int), .int (n : Int)] ∧ PgAt CP CS H p l qs s ∧ Wf s ∧ x ≤ 4294967295 ∧ y ≤ 4294967295 ∧ u ≤ 4294967295 ∧ v ≤ 4294967295 ∧
  Post CP CS H p l qs [] (Ie14.step s (.box k x y u v n)) Q
def spAPaint (CP CS : Addr) : Sp := fun vs H Q _ => ∃ (p l a : Addr) (qs : List Lay) (s : Ie14.St) (k n : Nat) (L : List Nat), vs = [.ref p, .int (k : Int), .ref a, .int (n : Int)] ∧ PgAt CP CS H p l qs s ∧ Wf s ∧ H a = some (.lst (lN L)) ∧ a ∉ foot p l qs ∧ L.Nodup ∧ L.length ≤ 36 ∧ (∀ i ∈ L, i < s.n) ∧ n ≤ 255 ∧
  Post CP CS H p l qs [] (paintL s k n L) Q
def spAEff (CP CS : Addr) : Sp := fun vs H Q _ => ∃ (p l a : Addr) (qs : List Lay) (s : Ie14.St) (k : Nat) (t : List Nat), vs = [.ref p, .int (k : Int), .ref a] ∧ PgAt CP CS H p l qs s ∧ Wf s ∧ H a = some (.lst (lN t)) ∧ t.length ≤ 1000 ∧ a ∉ foot p l qs ∧ Post CP CS H p l qs [a] (Ie14.step s (.effect k t)) Q
section
variable {P : Program} {w : World} {K : PySem.W.Frag} {mg : Str → Option Value} {base : Heap} {CP CS : Addr}
theorem scSide : FnScope ["length"] ["length"] (defScope sSide) := ⟨rfl, rfl, rfl, by decide +kernel, rfl, by decide +kernel, by decide +kernel⟩
theorem ok_side {f : Addr} {fd : FuncData} (F : Fun K "is_side" "is_side" sSide f fd) (TK : TxK mg) : FnOk P w K mg base CX0 1 f fd ["length"] spSide := by
  refine F.ok scSide (fun vs H Q E h => ?_) (fun cdv A outer s H vs Q E hr h => ?_)
  · obtain ⟨n, rfl, _⟩ := h
    rfl
  · obtain ⟨n, rfl, k⟩ := h
    refine ⟨_, pss_one (ps_ret (pe_chain op_le op_le pe_int (pv 0) (pe_gi TK.side rfl))), ?_⟩
    refine ⟨_, rfl, _, _, rfl, rfl, _, rfl, ?_⟩
    by_cases c : 1 ≤ n
    · refine if_true_of (by simp; omega) ?_
      refine ⟨_, _, rfl, rfl, ?_⟩
      have e : decide ((n : Int) ≤ 6) = decide (1 ≤ n ∧ n ≤ 6) := decide_eq_decide.mpr (by omega)
      rw [← e] at k
      exact k
    · refine if_false_of (by simp; omega) ?_
      have e : false = decide (1 ≤ n ∧ n ≤ 6) := (decide_eq_false (fun z => c z.1)).symm
      rw [← e] at k
      exact k
theorem scAPage : FnScope ["page", "w", "h"] ["page", "w", "h"] (defScope sAPage) := ⟨rfl, rfl, rfl, by decide +kernel, rfl, by decide +kernel, by decide +kernel⟩
theorem ok_apage {f : Addr} {fd : FuncData} (F : Fun K "answer_page" "answer_page" sAPage f fd) (TC : TxC K mg CP CS) (TK : TxK mg) (C1 : Cal P w K mg base "is_side" 1 ["length"] spSide) (C2 : CalM P w K mg base CP "begin" 1 ["self", "wide", "high"] (spBegin CP)) :
    FnOk P w K mg base CX0 2 f fd ["page", "w", "h"] (spAPage CP CS) := by
  refine F.ok scAPage (fun vs H Q E h => ?_) (fun cdv A outer s H vs Q E hr h => ?_)
  · obtain ⟨p, l, qs, s, w, h, rfl, _⟩ := h
    rfl
  · obtain ⟨p, l, qs, st, w, h, rfl, G, k⟩ := h
    refine ⟨_, pss_cons (ps_if (PW.pt (pw_or (pt_not (pt_val (pe_cal C1 hr rfl (pa_cons (pv 1) pa_nil)))) (pw_or1 (pt_not (pt_val (pe_cal C1 hr rfl (pa_cons (pv 2) pa_nil))))))) (pss_one (ps_ret (pe_lst (pa_cons (pe_gi TK.noPlace rfl) pa_nil)))) pss_nil)
      (pss_cons (ps_expr (pe_mth (pv 0) TC.clP C2 hr (pa_cons (pv 1) (pa_cons (pv 2) pa_nil)))) (pss_one (ps_ret (pe_lst (pa_cons pe_int pa_nil))))), ?_⟩
    have bad : (w < 1 ∨ 6 < w ∨ h < 1 ∨ 6 < h) → ∀ b, H b = none → Q (.ref b) (upd H b (.lst [.int (-1)])) := fun c b nb => by
      have e : Ie14.step st (.page w h) = (st, [-1]) := by
        simp only [Ie14.step]
        rw [if_pos c]
      rw [e] at k
      exact k.keep G (Same.refl H) nb
    refine ⟨_, rfl, w, rfl, _, rfl, ?_⟩
    by_cases cw : 1 ≤ w ∧ w ≤ 6
    · refine if_false_of (by simp [cw]) ?_
      refine ⟨_, rfl, h, rfl, _, rfl, ?_⟩
      by_cases ch : 1 ≤ h ∧ h ≤ 6
      · refine if_false_of (by simp [ch]) ?_
        have e : Ie14.step st (.page w h) = (⟨w, h, []⟩, [0]) := by
          simp only [Ie14.step]
          rw [if_neg (by omega)]
        rw [e] at k
        obtain ⟨dx, hp⟩ := G.ins
        refine ⟨_, rfl, p, dx, _, rfl, hp, pF_no, _, rfl, _, rfl, p, dx, w, h, _, rfl, hp, .inr ⟨_, _, _, rfl⟩, fun H1 l1 hp1 nl hl1 O1 => ?_⟩
        refine ⟨(by show 1 ≤ sizeLine; decide), fun b nb => ?_⟩
        have npl : p ≠ l1 := ne_of_none hp nl
        have s2 : Same H1 (upd H1 b (.lst [.int 0])) := same_new nb
        have G1 : PgAt CP CS H1 p l1 [] ⟨w, h, []⟩ := ⟨⟨dx, hp1⟩, hl1, rfl, fun k q x e _ => by simp at e, by unfold foot; simp [npl]⟩
        have nbH : H b = none := by
          cases q9 : H b with
          | none => rfl
          | some o =>
            by_cases c : b = p
            · rw [c, hp1] at nb
              cases nb
            · rw [O1 b o q9 (fun z => c (List.mem_singleton.mp z))] at nb
              cases nb
        refine k _ b l1 [] (G1.same s2) upd_same nbH (fun z => ?_) fun u o e9 hu _ => ?_
        · obtain ⟨o, ho⟩ := G1.tracked z
          rw [nb] at ho
          cases ho
        · have hup : u ≠ p := fun z => hu (by rw [z]; exact List.mem_cons_self ..)
          refine ⟨s2 _ _ (O1 u o e9 fun z => hup (List.mem_singleton.mp z)), fun z => ?_⟩
          rcases List.mem_cons.mp z with z | z
          · exact hup z
          · rcases List.mem_cons.mp z with z | z
            · exact ne_of_none e9 nl z
            · cases z
      · exact if_true_of (by simp at ch ⊢; omega) ⟨(by show 1 ≤ sizeLine; decide), bad (by omega)⟩
    · exact if_true_of (by simp at cw ⊢; omega) (if_true_of rfl ⟨(by show 1 ≤ sizeLine; decide), bad (by omega)⟩)
theorem scASheet : FnScope ["page", "effect", "ahead"] ["page", "effect"] (defScope sASheet) := ⟨rfl, rfl, rfl, by decide +kernel, rfl, by decide +kernel, by decide +kernel⟩
theorem ok_asheet {f : Addr} {fd : FuncData} (F : Fun K "answer_sheet" "answer_sheet" sASheet f fd) (TC : TxC K mg CP CS) (TE : TxE K mg) (TK : TxK mg) (C1 : Cal P w K mg base "is_effect" 2 ["effect", "ahead"] (spIsE K)) (C2 : CalM P w K mg base CP "add_sheet" 5 ["self", "effect"] (spAddS K CP CS)) :
    FnOk P w K mg base CX0 6 f fd ["page", "effect"] (spASheet CP CS) := by
  refine F.ok scASheet (fun vs H Q E h => ?_) (fun cdv A outer s H vs Q E hr h => ?_)
  · obtain ⟨p, l, a, qs, s, t, rfl, _⟩ := h
    rfl
  · obtain ⟨p, l, a, qs, st, t, rfl, G, W, ha, htl, naf, k⟩ := h
    have hr2 : Room 2 _ := hr.mono (by decide)
    refine ⟨_, pss_cons (ps_set (i := 2) scASheet.nd rfl (Or.inl rfl) (pe_callB call_len_seq (by rfl) TE.len PySem.boot_len (pa_cons (pe_fld (pv 0) rfl) pa_nil)))
      (pss_cons (ps_if (pt_cmpR op_eq (pv 2) (pe_gi TK.sheets rfl) (nomark _)) (pss_one (ps_ret (pe_lst (pa_cons (pe_gi TK.noRoom rfl) pa_nil)))) pss_nil)
      (pss_cons (ps_if (pt_not (pt_val (pe_cal C1 hr2 rfl (pa_cons (pv 1) (pa_cons (pv 2) pa_nil))))) (pss_one (ps_ret (pe_lst (pa_cons (pe_gi TK.noValue rfl) pa_nil)))) pss_nil)
      (pss_one (ps_ret (pe_lst (pa_cons (pe_mth (pv 0) TC.clP C2 hr (pa_cons (pv 1) pa_nil)) pa_nil)))))), ?_⟩
    obtain ⟨dx, hp⟩ := G.ins
    have ten := W.ten
    refine ⟨_, rfl, p, CP, dx, _, _, rfl, hp, TC.clP, TC.nS, pF_sheets, l, _, rfl, .inl (SqL.of G.lst), ?_⟩
    have el : (qs.map fun q => V.ref q.s).length = st.sheets.length := by rw [List.length_map]; exact G.len
    rw [el]
    refine ⟨_, rfl, rfl, _, rfl, ?_⟩
    by_cases c : st.sheets.length = 10
    · refine if_true_of (by simp [c]) ⟨(by show 1 ≤ sizeLine; decide), fun b nb => ?_⟩
      have e : Ie14.step st (.sheet t) = (st, [-5]) := by
        simp only [Ie14.step]
        rw [if_pos (show Ie14.SHEETS ≤ st.sheets.length by show 10 ≤ _; omega)]
      rw [e] at k
      exact k.keep G (Same.refl H) nb
    · refine if_false_of (by simp; omega) ?_
      have e0 : ¬ Ie14.SHEETS ≤ st.sheets.length := by show ¬ 10 ≤ _; omega
      refine ⟨_, rfl, _, rfl, a, t, st.sheets.length, rfl, SqL.of ha, htl, fun H1 s1 => ⟨_, rfl, ?_⟩⟩
      rw [isEff_eq]
      cases he : effectOf st.sheets.length t with
      | none =>
        refine if_true_of rfl ⟨(by show 1 ≤ sizeLine; decide), fun b nb => ?_⟩
        have e : Ie14.step st (.sheet t) = (st, [-3]) := by
          simp only [Ie14.step]
          rw [if_neg e0, he]
        rw [e] at k
        exact k.keep G s1 nb
      | some e =>
        refine if_false_of rfl ?_
        obtain ⟨ht, hof, hok⟩ := effectOf_some he
        have e1 : Ie14.step st (.sheet t) = ({ st with sheets := st.sheets ++ [⟨e, made st.w st.h st.sheets e, List.range st.n⟩] }, Ie14.ints [st.sheets.length]) := by
          simp only [Ie14.step]
          rw [if_neg e0, he]
        rw [e1] at k
        rw [ht] at ha
        refine ⟨_, rfl, p, dx, _, rfl, s1 _ _ hp, pF_no, _, rfl, p, l, a, qs, st, e, rfl, G.same s1, W, by omega, s1 _ _ ha, naf, hof, hok, fun H2 q hqe G2 n1 n2 n3 O2 => ⟨(by show 1 ≤ sizeLine; decide), fun b nb => ?_⟩⟩
        have s3 : Same H2 (upd H2 b (.lst [.int ((st.sheets.length : Nat) : Int)])) := same_new nb
        have hl : l ∈ foot p l qs := List.mem_cons_of_mem _ (List.mem_cons_self ..)
        have sub : ∀ u ∈ foot p l (qs ++ [q]), u ∈ foot p l qs ∨ u = q.s ∨ u = q.e ∨ u = q.c ∨ u = q.f := fun u hu => by
          unfold foot at hu ⊢
          rw [List.flatMap_append] at hu
          simp at hu ⊢
          rcases hu with z | z | z | z
          · exact .inl (.inl z)
          · exact .inl (.inr (.inl z))
          · exact .inl (.inr (.inr z))
          · exact .inr z
        have nbH : H b = none := by
          cases q9 : H b with
          | none => rfl
          | some o =>
            by_cases c : b = l
            · rw [c, G2.lst] at nb
              cases nb
            · rw [O2 b o (s1 b o q9) (fun z => c (List.mem_singleton.mp z))] at nb
              cases nb
        refine k _ b l (qs ++ [q]) (G2.same s3) upd_same nbH (fun z => ?_) fun u o e9 hu hua => ?_
        · obtain ⟨o, ho⟩ := G2.tracked z
          rw [nb] at ho
          cases ho
        · have hul : u ≠ l := fun z => hu (by rw [z]; exact hl)
          refine ⟨s3 _ _ (O2 u o (s1 u o e9) fun z => hul (List.mem_singleton.mp z)), fun z => ?_⟩
          rcases sub u z with z | z | z | z | z
          · exact hu z
          · rw [z, Same.free s1 n1] at e9; cases e9
          · exact hua (by rw [z, hqe]; exact List.mem_singleton.mpr rfl)
          · rw [z, Same.free s1 n2] at e9; cases e9
          · rw [z, Same.free s1 n3] at e9; cases e9
theorem scAPaint : FnScope ["page", "k", "cells", "n", "sheet"] ["page", "k", "cells", "n"] (defScope sAPaint) := ⟨rfl, rfl, rfl, by decide +kernel, rfl, by decide +kernel, by decide +kernel⟩
theorem ok_apaint {f : Addr} {fd : FuncData} (F : Fun K "answer_paint" "answer_paint" sAPaint f fd) (TC : TxC K mg CP CS) (TK : TxK mg) (C1 : CalM P w K mg base CP "has_sheet" 1 ["self", "k"] (spHasS K CP)) (C2 : CalM P w K mg base CS "is_painted" 1 ["self"] (spIsP K CS))
    (C3 : CalM P w K mg base CP "paint" 6 ["self", "k", "cells", "n"] (spPaint K CP CS)) : FnOk P w K mg base CX0 7 f fd ["page", "k", "cells", "n"] (spAPaint CP CS) := by
  refine F.ok scAPaint (fun vs H Q E h => ?_) (fun cdv A outer s H vs Q E hr h => ?_)
  · obtain ⟨p, l, a, qs, s, k, n, L, rfl, _⟩ := h
    rfl
  · obtain ⟨p, l, a, qs, st, k, n, L, rfl, G, W, ha, naf, hL, hLl, hLn, hn, kk⟩ := h
    have hr1 : Room 1 _ := hr.mono (by decide)
    refine ⟨_, pss_cons (ps_if (pt_not (pt_val (pe_mth (pv 0) TC.clP C1 hr1 (pa_cons (pv 1) pa_nil)))) (pss_one (ps_ret (pe_lst (pa_cons (pe_gi TK.noSheet rfl) pa_nil)))) pss_nil)
      (pss_cons (ps_set (i := 4) scAPaint.nd rfl (Or.inl rfl) (pe_ix ix_list (pe_fld (pv 0) rfl) (pv 1) (fun _ _ => rfl)))
      (pss_cons (ps_if (pt_not (pt_val (pe_mth0 (pv 4) TC.clS C2 hr1))) (pss_one (ps_ret (pe_lst (pa_cons (pe_gi TK.notPainted rfl) pa_nil)))) pss_nil)
      (pss_one (ps_ret (pe_mth (pv 0) TC.clP C3 hr (pa_cons (pv 1) (pa_cons (pv 2) (pa_cons (pv 3) pa_nil)))))))), ?_⟩
    obtain ⟨dx, hp⟩ := G.ins
    have el : (qs.map fun q => V.ref q.s).length = st.sheets.length := by rw [List.length_map]; exact G.len
    refine ⟨_, rfl, p, dx, _, rfl, hp, pF_no, _, rfl, p, dx, l, st.w, st.h, k, _, rfl, hp, G.lst, _, rfl, ?_⟩
    rw [el]
    cases hx : st.sheets[k]? with
    | none =>
      have hk : ¬ k < st.sheets.length := by have := List.getElem?_eq_none_iff.mp hx; omega
      refine if_true_of (by simp [hk]) ⟨(by show 1 ≤ sizeLine; decide), fun b nb => ?_⟩
      have e : paintL st k n L = (st, [-2]) := by unfold paintL; rw [hx]
      rw [e] at kk
      exact kk.keep G (Same.refl H) nb
    | some x =>
      have hk : k < st.sheets.length := (List.getElem?_eq_some_iff.mp hx).1
      refine if_false_of (by simp [hk]) ?_
      obtain ⟨q, hq⟩ : ∃ q, qs[k]? = some q := ⟨_, List.getElem?_eq_getElem (by rw [G.len]; exact hk)⟩
      obtain ⟨⟨dx2, g1⟩, g2, g3, g4⟩ := G.at_ k q x hq hx
      refine ⟨_, rfl, p, CP, dx, _, _, rfl, hp, TC.clP, TC.nS, pF_sheets, _, rfl, l, _, _, _, rfl, rfl, SqL.of G.lst, atI_nat (j := k) (v := V.ref q.s) (by rw [List.getElem?_map, hq]; rfl), ?_⟩
      refine ⟨_, rfl, q.s, dx2, _, rfl, g1, sF_no, dx2, q, x.effect, rfl, g1, SqL.of g2, _, rfl, ?_⟩
      by_cases cp : x.effect = .painted
      · refine if_false_of (by simp [cp]) ?_
        have e : paintL st k n L = ({ st with sheets := (goes st k (setL st.n x (fun _ => n) L)).1 }, Ie14.ints [(setL st.n x (fun _ => n) L).2.length, (goes st k (setL st.n x (fun _ => n) L)).2]) := by
          unfold paintL
          rw [hx]
          dsimp only
          rw [if_neg (fun z => z cp)]
        rw [e] at kk
        refine ⟨_, rfl, p, dx, _, rfl, hp, pF_no, _, rfl, _, rfl, _, rfl, p, l, a, qs, st, k, n, L, x, rfl, G, W, hx, ha, naf, hL, hLl, hLn, hn, fun H1 b G1 O1 nb hb => ?_⟩
        refine kk _ b l qs G1 hb nb (fun z => ?_) fun u o e9 hu _ => ⟨O1 u o e9 hu, hu⟩
        obtain ⟨o, ho⟩ := G.tracked z
        rw [nb] at ho
        cases ho
      · refine if_true_of (by simp [cp]) ⟨(by show 1 ≤ sizeLine; decide), fun b nb => ?_⟩
        have e : paintL st k n L = (st, [-6]) := by
          unfold paintL
          rw [hx]
          dsimp only
          rw [if_pos cp]
        rw [e] at kk
        exact kk.keep G (Same.refl H) nb
theorem box_ok (s : Ie14.St) (W : Wf s) (x y u v : Nat) : ((List.range (s.w * s.h)).filter (inBox s.w x y u v)).Nodup ∧ ((List.range (s.w * s.h)).filter (inBox s.w x y u v)).length ≤ 36 ∧ ∀ i ∈ (List.range (s.w * s.h)).filter (inBox s.w x y u v), i < s.n := by
  refine ⟨List.nodup_range.filter _, ?_, fun i hi => List.mem_range.mp (List.mem_filter.mp hi).1⟩
  have h1 := List.length_filter_le (inBox s.w x y u v) (List.range (s.w * s.h))
  rw [List.length_range] at h1
  exact Nat.le_trans h1 W.n36
/-- a call's end seen from further back: nothing but new things came in between -/
theorem Post.back {CP CS : Addr} {H H1 : Hp} {p l : Addr} {qs : List Lay} {r : Ie14.St × List Int} {Q : VK} (k : Post CP CS H p l qs [] r Q) (s1 : Same H H1) : Post CP CS H1 p l qs [] r Q :=
  fun H' b l' qs' G hb nb nf h => k H' b l' qs' G hb (Same.free s1 nb) nf fun u o e hu hx => h u o (s1 u o e) hu hx
theorem scADot : FnScope ["page", "k", "x", "y", "n"] ["page", "k", "x", "y", "n"] (defScope sADot) := ⟨rfl, rfl, rfl, by decide +kernel, rfl, by decide +kernel, by decide +kernel⟩
theorem ok_adot {f : Addr} {fd : FuncData} (F : Fun K "answer_dot" "answer_dot" sADot f fd) (TC : TxC K mg CP CS) (TE : TxE K mg) (TK : TxK mg) (C1 : CalM P w K mg base CP "has_cell" 1 ["self", "x", "y"] (spHasC CP)) (C2 : CalM P w K mg base CP "cells_in_box" 2 ["self", "x", "y", "u", "v"] (spInBox CP))
    (C3 : Cal P w K mg base "answer_paint" 7 ["page", "k", "cells", "n"] (spAPaint CP CS)) : FnOk P w K mg base CX0 8 f fd ["page", "k", "x", "y", "n"] (spADot CP CS) := by
  refine F.ok scADot (fun vs H Q E h => ?_) (fun cdv A outer s H vs Q E hr h => ?_)
  · obtain ⟨p, l, qs, s, k, x, y, n, rfl, _⟩ := h
    rfl
  · obtain ⟨p, l, qs, st, k, x, y, n, rfl, G, W, bx, by_, kk⟩ := h
    have hr1 : Room 1 _ := hr.mono (by decide)
    have hr2 : Room 2 _ := hr.mono (by decide)
    refine ⟨_, pss_cons (ps_if (pt_cmpR op_gt (pv 4) (pe_gi TE.most rfl) (nomark _)) (pss_one (ps_ret (pe_lst (pa_cons (pe_gi TK.noValue rfl) pa_nil)))) pss_nil)
      (pss_cons (ps_if (pt_not (pt_val (pe_mth (pv 0) TC.clP C1 hr1 (pa_cons (pv 2) (pa_cons (pv 3) pa_nil))))) (pss_one (ps_ret (pe_lst (pa_cons (pe_gi TK.noPlace rfl) pa_nil)))) pss_nil)
      (pss_one (ps_ret (pe_cal C3 hr rfl (pa_cons (pv 0) (pa_cons (pv 1) (pa_cons (pe_mth (pv 0) TC.clP C2 hr2 (pa_cons (pv 2) (pa_cons (pv 3) (pa_cons pe_int (pa_cons pe_int pa_nil))))) (pa_cons (pv 4) pa_nil)))))))), ?_⟩
    obtain ⟨dx, hp⟩ := G.ins
    refine ⟨_, rfl, _, _, rfl, rfl, _, rfl, ?_⟩
    by_cases cn : 255 < n
    · refine if_true_of (by simp; omega) ⟨(by show 1 ≤ sizeLine; decide), fun b nb => ?_⟩
      have e : Ie14.step st (.dot k x y n) = (st, [-3]) := by simp only [Ie14.step]; rw [if_pos cn]
      rw [e] at kk
      exact kk.keep G (Same.refl H) nb
    · refine if_false_of (by simp; omega) ?_
      refine ⟨_, rfl, p, dx, _, rfl, hp, pF_no, _, rfl, _, rfl, p, dx, l, st.w, st.h, x, y, rfl, hp, _, rfl, ?_⟩
      by_cases c : x < st.w ∧ y < st.h
      · refine if_false_of (by simp [c]) ?_
        have e : Ie14.step st (.dot k x y n) = paintL st k n ((List.range st.n).filter (inBox st.w x y 1 1)) := by
          simp only [Ie14.step]
          rw [if_neg cn, if_neg (by omega), paint_dot W c.1 c.2]
        rw [e] at kk
        obtain ⟨b1, b2, b3⟩ := box_ok st W x y 1 1
        refine ⟨_, rfl, _, rfl, _, rfl, p, dx, _, rfl, hp, pF_no, _, rfl, _, rfl, p, dx, l, st.w, st.h, x, y, 1, 1, rfl, hp, W.w0, W.w6, W.h6, bx, by_, by decide, by decide, fun H1 a s1 na ha => ?_⟩
        refine ⟨_, rfl, p, l, a, qs, st, k, n, _, rfl, G.same s1, W, ha, fun z => ?_, b1, b2, b3, by omega, kk.back s1⟩
        obtain ⟨o, ho⟩ := G.tracked z
        rw [na] at ho
        cases ho
      · refine if_true_of (by simp at c ⊢; omega) ⟨(by show 1 ≤ sizeLine; decide), fun b nb => ?_⟩
        have e : Ie14.step st (.dot k x y n) = (st, [-1]) := by simp only [Ie14.step]; rw [if_neg cn, if_pos (by omega)]
        rw [e] at kk
        exact kk.keep G (Same.refl H) nb
theorem scABox : FnScope ["page", "k", "x", "y", "u", "v", "n"] ["page", "k", "x", "y", "u", "v", "n"] (defScope sABox) := ⟨rfl, rfl, rfl, by decide +kernel, rfl, by decide +kernel, by decide +kernel⟩
theorem ok_abox {f : Addr} {fd : FuncData} (F : Fun K "answer_box" "answer_box" sABox f fd) (TC : TxC K mg CP CS) (TE : TxE K mg) (TK : TxK mg) (C2 : CalM P w K mg base CP "cells_in_box" 2 ["self", "x", "y", "u", "v"] (spInBox CP))
    (C3 : Cal P w K mg base "answer_paint" 7 ["page", "k", "cells", "n"] (spAPaint CP CS)) : FnOk P w K mg base CX0 8 f fd ["page", "k", "x", "y", "u", "v", "n"] (spABox CP CS) := by
  refine F.ok scABox (fun vs H Q E h => ?_) (fun cdv A outer s H vs Q E hr h => ?_)
  · obtain ⟨p, l, qs, s, k, x, y, u, v, n, rfl, _⟩ := h
    rfl
  · obtain ⟨p, l, qs, st, k, x, y, u, v, n, rfl, G, W, bx, by_, bu, bv, kk⟩ := h
    have hr2 : Room 2 _ := hr.mono (by decide)
    refine ⟨_, pss_cons (ps_if (pt_cmpR op_gt (pv 6) (pe_gi TE.most rfl) (nomark _)) (pss_one (ps_ret (pe_lst (pa_cons (pe_gi TK.noValue rfl) pa_nil)))) pss_nil)
      (pss_one (ps_ret (pe_cal C3 hr rfl (pa_cons (pv 0) (pa_cons (pv 1) (pa_cons (pe_mth (pv 0) TC.clP C2 hr2 (pa_cons (pv 2) (pa_cons (pv 3) (pa_cons (pv 4) (pa_cons (pv 5) pa_nil))))) (pa_cons (pv 6) pa_nil))))))), ?_⟩
    obtain ⟨dx, hp⟩ := G.ins
    refine ⟨_, rfl, _, _, rfl, rfl, _, rfl, ?_⟩
    by_cases cn : 255 < n
    · refine if_true_of (by simp; omega) ⟨(by show 1 ≤ sizeLine; decide), fun b nb => ?_⟩
      have e : Ie14.step st (.box k x y u v n) = (st, [-3]) := by simp only [Ie14.step]; rw [if_pos cn]
      rw [e] at kk
      exact kk.keep G (Same.refl H) nb
    · refine if_false_of (by simp; omega) ?_
      have e : Ie14.step st (.box k x y u v n) = paintL st k n ((List.range st.n).filter (inBox st.w x y u v)) := by
        simp only [Ie14.step]
        rw [if_neg cn, paint_eq W]
      rw [e] at kk
      obtain ⟨b1, b2, b3⟩ := box_ok st W x y u v
      refine ⟨_, rfl, _, rfl, _, rfl, p, dx, _, rfl, hp, pF_no, _, rfl, _, rfl, _, rfl, _, rfl, p, dx, l, st.w, st.h, x, y, u, v, rfl, hp, W.w0, W.w6, W.h6, bx, by_, bu, bv, fun H1 a s1 na ha => ?_⟩
      refine ⟨_, rfl, p, l, a, qs, st, k, n, _, rfl, G.same s1, W, ha, fun z => ?_, b1, b2, b3, by omega, kk.back s1⟩
      obtain ⟨o, ho⟩ := G.tracked z
      rw [na] at ho
      cases ho
theorem scAEff : FnScope ["page", "k", "effect"] ["page", "k", "effect"] (defScope sAEff) := ⟨rfl, rfl, rfl, by decide +kernel, rfl, by decide +kernel, by decide +kernel⟩
theorem ok_aeff {f : Addr} {fd : FuncData} (F : Fun K "answer_effect" "answer_effect" sAEff f fd) (TC : TxC K mg CP CS) (TK : TxK mg) (C1 : CalM P w K mg base CP "has_sheet" 1 ["self", "k"] (spHasS K CP)) (C2 : Cal P w K mg base "is_effect" 2 ["effect", "ahead"] (spIsE K))
    (C3 : CalM P w K mg base CP "give_effect" 6 ["self", "k", "effect"] (spGive K CP CS)) : FnOk P w K mg base CX0 7 f fd ["page", "k", "effect"] (spAEff CP CS) := by
  refine F.ok scAEff (fun vs H Q E h => ?_) (fun cdv A outer s H vs Q E hr h => ?_)
  · obtain ⟨p, l, a, qs, s, k, t, rfl, _⟩ := h
    rfl
  · obtain ⟨p, l, a, qs, st, k, t, rfl, G, W, ha, htl, naf, kk⟩ := h
    have hr1 : Room 1 _ := hr.mono (by decide)
    have hr2 : Room 2 _ := hr.mono (by decide)
    refine ⟨_, pss_cons (ps_if (pt_not (pt_val (pe_mth (pv 0) TC.clP C1 hr1 (pa_cons (pv 1) pa_nil)))) (pss_one (ps_ret (pe_lst (pa_cons (pe_gi TK.noSheet rfl) pa_nil)))) pss_nil)
      (pss_cons (ps_if (pt_not (pt_val (pe_cal C2 hr2 rfl (pa_cons (pv 2) (pa_cons (pv 1) pa_nil))))) (pss_one (ps_ret (pe_lst (pa_cons (pe_gi TK.noValue rfl) pa_nil)))) pss_nil)
      (pss_one (ps_ret (pe_mth (pv 0) TC.clP C3 hr (pa_cons (pv 1) (pa_cons (pv 2) pa_nil)))))), ?_⟩
    obtain ⟨dx, hp⟩ := G.ins
    have el : (qs.map fun q => V.ref q.s).length = st.sheets.length := by rw [List.length_map]; exact G.len
    refine ⟨_, rfl, p, dx, _, rfl, hp, pF_no, _, rfl, p, dx, l, st.w, st.h, k, _, rfl, hp, G.lst, _, rfl, ?_⟩
    rw [el]
    cases hx : st.sheets[k]? with
    | none =>
      have hk : ¬ k < st.sheets.length := by have := List.getElem?_eq_none_iff.mp hx; omega
      refine if_true_of (by simp [hk]) ⟨(by show 1 ≤ sizeLine; decide), fun b nb => ?_⟩
      have e : Ie14.step st (.effect k t) = (st, [-2]) := by simp only [Ie14.step]; rw [hx]
      rw [e] at kk
      exact kk.keep G (Same.refl H) nb
    | some x =>
      have hk : k < st.sheets.length := (List.getElem?_eq_some_iff.mp hx).1
      refine if_false_of (by simp [hk]) ?_
      obtain ⟨q, hq⟩ : ∃ q, qs[k]? = some q := ⟨_, List.getElem?_eq_getElem (by rw [G.len]; exact hk)⟩
      refine ⟨_, rfl, _, rfl, a, t, k, rfl, SqL.of ha, htl, fun H1 s1 => ⟨_, rfl, ?_⟩⟩
      rw [isEff_eq]
      cases he : effectOf k t with
      | none =>
        refine if_true_of rfl ⟨(by show 1 ≤ sizeLine; decide), fun b nb => ?_⟩
        have e : Ie14.step st (.effect k t) = (st, [-3]) := by simp only [Ie14.step]; rw [hx]; dsimp only; rw [he]
        rw [e] at kk
        exact kk.keep G s1 nb
      | some e =>
        refine if_false_of rfl ?_
        obtain ⟨ht, hof, hok⟩ := effectOf_some he
        have e1 : Ie14.step st (.effect k t) = ({ st with sheets := (goes st k (giveR st k x e)).1 }, Ie14.ints [(giveR st k x e).2.length, (goes st k (giveR st k x e)).2]) := by
          rw [← effect_eq W hx]
          simp only [Ie14.step]
          rw [hx]
          dsimp only
          rw [he]
        rw [e1] at kk
        rw [ht] at ha
        refine ⟨_, rfl, p, dx, _, rfl, s1 _ _ hp, pF_no, _, rfl, _, rfl, p, l, a, qs, st, k, e, x, q, rfl, G.same s1, W, hx, hq, s1 _ _ ha, naf, hof, hok, fun H2 b G2 O2 nb hb => ?_⟩
        have nbH := Same.free s1 nb
        have sub := foot_set_sub (p := p) (l := l) (a := a) hq
        refine kk _ b l _ G2 hb nbH (fun z => ?_) fun u o e9 hu hua => ⟨O2 u o (s1 u o e9) fun z => ?_, fun z => ?_⟩
        · rcases List.mem_cons.mp (sub b z) with z | z
          · rw [z, ha] at nbH
            cases nbH
          · obtain ⟨o, ho⟩ := G.tracked z
            rw [nbH] at ho
            cases ho
        · rcases List.mem_cons.mp z with z | z
          · exact hua (List.mem_singleton.mpr z)
          · exact hu z
        · rcases List.mem_cons.mp (sub u z) with z | z
          · exact hua (List.mem_singleton.mpr z)
          · exact hu z
end
end Kp
set_option Elab.async false
set_option linter.all false
set_option maxRecDepth 100000
set_option maxHeartbeats 2000000
namespace Kp
open PySem PySem.Spec PyProof.Rows L2
open Ie14 (Effect Sheet near moveFrom around gap inBox cellsAt touched onFrom made effectOf)
abbrev sFresh : Stmt := inClass cSheet 2
abbrev sSeen : Stmt := inClass cSheet 3
def spFresh (CS : Addr) : Sp := fun vs H Q _ => ∃ (dx : Addr) (q : Lay) (n : Nat) (news : List Nat), vs = [.ref q.s] ∧ H q.s = some (.ins CS dx (sF q)) ∧ H q.f = some (.lst (frs n news)) ∧ n ≤ 36 ∧
  ∀ H' b, Same H H' → H b = none → H' b = some (.lst (lN ((List.range n).filter fun i => news.contains i))) → Q (.ref b) H'
def spSeen (CS : Addr) : Sp := fun vs H Q _ => ∃ (dx : Addr) (q : Lay) (xs : List V), vs = [.ref q.s] ∧ H q.s = some (.ins CS dx (sF q)) ∧ H q.c = some (.lst xs) ∧ xs.length ≤ 36 ∧
  ∀ H' f, H' q.s = some (.ins CS dx (sF { q with f := f })) → H f = none → H' f = some (.lst (xs.map fun _ => V.bl false)) → Only H H' [q.s] → Q .non H'
theorem sF_putF {q : Lay} {f : Addr} : putF "fresh" (.ref f) (sF q) = sF { q with f := f } := by
  unfold sF
  rw [put_past (by decide +kernel), put_past (by decide +kernel), put_here]
theorem frs_nil {xs : List V} : (xs.map fun _ => V.bl false) = frs xs.length [] := by
  unfold frs
  apply List.ext_getElem?
  intro j
  by_cases c : j < xs.length
  · simp [c]
  · rw [List.getElem?_eq_none (by simp; omega), List.getElem?_eq_none (by simp; omega)]
section
variable {P : Program} {w : World} {K : PySem.W.Frag} {mg : Str → Option Value} {base : Heap} {CP CS : Addr}
theorem scFresh : FnScope ["self", "cell"] ["self"] (defScope sFresh) := ⟨rfl, rfl, rfl, by decide +kernel, rfl, by decide +kernel, by decide +kernel⟩
theorem ok_fresh {f : Addr} {fd : FuncData} (F : Fun K "fresh_cells" "Sheet.fresh_cells" sFresh f fd) (T : TxC K mg CP CS) (TE : TxE K mg) : FnOk P w K mg base CX0 1 f fd ["self"] (spFresh CS) := by
  refine F.ok scFresh (fun vs H Q E h => ?_) (fun cdv A outer s H vs Q E hr h => ?_)
  · obtain ⟨dx, q, n, news, rfl, _⟩ := h
    rfl
  · obtain ⟨dx, q, n, news, rfl, hq, hf, hn, k⟩ := h
    refine ⟨_, pss_one (ps_ret (pe_lc (own := [("cell", 1)]) (g := gName 1) (tt := tB (tOp (rIxL K) (tFld K (tVar 0) "fresh") (tVar 1))) (te := tVar 1) rfl scFresh.nd (pi_range1 (by rfl) TE.range (pa_cons (pe_callB call_len_seq (by rfl) TE.len PySem.boot_len (pa_cons (pe_fld (pv 0) rfl) pa_nil)) pa_nil)) (blkOk_by (own := [("cell", 1)]) (N := ["self", "cell"]) (sc := defScope sFresh) (by decide +kernel))
      (fun _ _ _ _ _ => pg_name (i := 1) scFresh.nd rfl (Or.inl rfl)) (fun _ _ _ _ _ => pts_one (pt_val (pe_ix (r := rIxL K) ix_list (pe_fld (pv 0) rfl) (pv 1) (fun _ _ => rfl)))) (fun _ _ _ _ _ => pv 1))), ?_⟩
    have esz : sizeLine = 16777216 := sizeLine_eq
    have ln : (frs n news).length = n := by unfold frs; simp
    refine ⟨_, rfl, q.s, CS, dx, _, _, rfl, hq, T.clS, T.nF, sF_fresh, q.f, _, rfl, .inl (SqL.of hf), ((n : Nat) : Int), by rw [ln], by omega, by omega, fun D hD => lc_range (lo := 0) (n := n) (fun j H' => H' = upd H D (.lst (lN ((List.range j).filter fun i => news.contains i)))) rfl ?_ ?_⟩
    · rintro j H' hj rfl
      rw [Int.zero_add]
      have s1 : ∀ xs, Same H (upd H D (.lst xs)) := fun xs => same_new hD
      have hg : (frs n news)[j]? = some (V.bl (news.contains j)) := by unfold frs; rw [List.getElem?_map, List.getElem?_range hj]; rfl
      refine ⟨rfl, _, rfl, q.s, CS, dx, _, _, rfl, s1 _ _ _ hq, T.clS, T.nF, sF_fresh, _, rfl, q.f, _, _, _, rfl, rfl, SqL.of (s1 _ _ _ hf), atI_nat (j := j) hg, _, rfl, ?_⟩
      have hl : ((List.range j).filter fun i => news.contains i).length ≤ j := Nat.le_trans (List.length_filter_le _ _) (by simp)
      cases c : news.contains j with
      | true =>
        refine if_true_of rfl ⟨_, rfl, _, upd_same, by rw [lN_length, esz]; omega, ?_⟩
        rw [upd_upd, List.range_succ, List.filter_append, List.filter_cons, if_pos c]
        show upd H D (.lst (lN _ ++ [V.int _])) = upd H D (.lst (lN (_ ++ [_])))
        rw [lN_snoc]
      | false =>
        refine if_false_of rfl ?_
        rw [List.range_succ, List.filter_append, List.filter_cons, if_neg (by rw [c]; decide), List.filter_nil, List.append_nil]
    · rintro H' rfl
      exact k _ D (same_new hD) hD upd_same
theorem scSeen : FnScope ["self", "number"] ["self"] (defScope sSeen) := ⟨rfl, rfl, rfl, by decide +kernel, rfl, by decide +kernel, by decide +kernel⟩
theorem ok_seen {f : Addr} {fd : FuncData} (F : Fun K "mark_seen" "Sheet.mark_seen" sSeen f fd) (T : TxC K mg CP CS) : FnOk P w K mg base CX0 1 f fd ["self"] (spSeen CS) := by
  refine F.ok scSeen (fun vs H Q E h => ?_) (fun cdv A outer s H vs Q E hr h => ?_)
  · obtain ⟨dx, q, xs, rfl, _⟩ := h
    rfl
  · obtain ⟨dx, q, xs, rfl, hq, hc, hln, k⟩ := h
    refine ⟨_, pss_one (ps_fld (pv 0)
      (pe_lc (own := [("number", 1)]) (g := gName 1) (tt := tYes) rfl scSeen.nd (pi_list (pe_fld (pv 0) rfl)) (blkOk_by (own := [("number", 1)]) (N := ["self", "number"]) (sc := defScope sSeen) (by decide +kernel))
          (fun _ _ _ _ _ => pg_name (i := 1) scSeen.nd rfl (Or.inl rfl)) (fun _ _ _ _ _ => pts_nil) (fun _ _ _ _ _ => pe_bl)) rfl), ?_⟩
    have esz : sizeLine = 16777216 := sizeLine_eq
    refine ⟨_, rfl, q.s, CS, dx, _, _, rfl, hq, T.clS, T.nN, sF_numbers, q.c, rfl, ⟨_, SqL.of hc⟩, fun D hD => lc_list (K := K) (a := q.c) (xs := xs) (fun j H' => H' = upd H D (.lst ((xs.take j).map fun _ => V.bl false)))
      rfl (fun j H' _ e9 => ?_) ?_ ?_⟩
    · rw [e9]
      exact SqL.of (by rw [upd_ne (ne_of_none hc hD)]; exact hc)
    · rintro j y H' hy rfl
      refine ⟨rfl, tYes_if ?_⟩
      refine ⟨_, upd_same, ?_, ?_⟩
      · rw [List.length_map, List.length_take, esz]; omega
      · rw [upd_upd]
        have e9 : ((xs.take (j + 1)).map fun _ => V.bl false) = ((xs.take j).map fun _ => V.bl false) ++ [V.bl false] := by rw [List.take_add_one, hy, List.map_append]; rfl
        rw [e9]
    · rintro H' rfl
      rw [List.take_length]
      have nxD : q.s ≠ D := ne_of_none hq hD
      refine ⟨_, rfl, q.s, CS, dx, _, rfl, by rw [upd_ne nxD]; exact hq, T.clS, T.nF, (by show 3 < 1000; decide), ?_⟩
      refine k _ D ?_ hD ?_ ?_
      · rw [upd_same]
        exact congrArg (fun q => some (HO.ins CS dx q)) sF_putF
      · rw [upd_ne (fun z => nxD z.symm), upd_same]
      · intro b o e9 hb
        have hbx : b ≠ q.s := fun z => hb (by rw [z]; exact List.mem_singleton.mpr rfl)
        rw [upd_ne hbx, upd_ne (ne_of_none e9 hD)]
        exact e9
end
/-! ### a sheet is given other marks -/
theorem foot_setF {p l a : Addr} {qs : List Lay} {k : Nat} {q : Lay} (hq : qs[k]? = some q) : ∀ u ∈ foot p l (qs.set k { q with f := a }), u ∈ a :: foot p l qs := by
  intro u hu
  rcases List.mem_cons.mp hu with z | hu
  · exact List.mem_cons_of_mem _ (by rw [z]; exact List.mem_cons_self ..)
  rcases List.mem_cons.mp hu with z | hu
  · exact List.mem_cons_of_mem _ (by rw [z]; exact List.mem_cons_of_mem _ (List.mem_cons_self ..))
  obtain ⟨q', hq', hu'⟩ := List.mem_flatMap.mp hu
  rcases List.mem_or_eq_of_mem_set hq' with z | z
  · exact List.mem_cons_of_mem _ (mem_foot z hu')
  · rw [z] at hu'
    have mq := List.mem_of_getElem? hq
    simp at hu'
    rcases hu' with z | z | z | z
    · exact List.mem_cons_of_mem _ (mem_foot mq (by rw [z]; simp [Lay.all]))
    · exact List.mem_cons_of_mem _ (mem_foot mq (by rw [z]; simp [Lay.all]))
    · exact List.mem_cons_of_mem _ (mem_foot mq (by rw [z]; simp [Lay.all]))
    · rw [z]; exact List.mem_cons_self ..
theorem nodup_setF {p l a : Addr} {qs : List Lay} {k : Nat} {q : Lay} (h : (foot p l qs).Nodup) (hq : qs[k]? = some q) (ha : a ∉ foot p l qs) : (foot p l (qs.set k { q with f := a })).Nodup := by
  have A := apart_of h
  have mq := List.mem_of_getElem? hq
  have hk : k < qs.length := (List.getElem?_eq_some_iff.mp hq).1
  have sub : ∀ u ∈ ({ q with f := a } : Lay).all, u ∈ q.all ∨ u = a := fun u hu => by
    simp [Lay.all] at hu ⊢
    rcases hu with z | z | z | z <;> simp [z]
  have memc : ∀ q' ∈ qs.set k { q with f := a }, ∀ u ∈ q'.all, (∃ q'' ∈ qs, u ∈ q''.all) ∨ u = a := fun q' hq' u hu => by
    rcases List.mem_or_eq_of_mem_set hq' with z | z
    · exact .inl ⟨q', z, hu⟩
    · rw [z] at hu
      rcases sub u hu with y | y
      · exact .inl ⟨q, mq, y⟩
      · exact .inr y
  refine nodup_of_apart ⟨A.pl, fun q' hq' u hu z => ?_, fun q' hq' u hu z => ?_, fun q' hq' => ?_, fun i j b c hb hc hij u hu v hv z => ?_⟩
  · rcases memc q' hq' u hu with ⟨q'', m, y⟩ | y
    · exact A.p_ q'' m u y z
    · exact ha (by rw [← y, ← z]; exact List.mem_cons_self ..)
  · rcases memc q' hq' u hu with ⟨q'', m, y⟩ | y
    · exact A.l_ q'' m u y z
    · exact ha (by rw [← y, ← z]; exact List.mem_cons_of_mem _ (List.mem_cons_self ..))
  · rcases List.mem_or_eq_of_mem_set hq' with z | z
    · exact A.in_ q' z
    · rw [z]
      have nd := A.in_ q mq
      have na : ∀ u ∈ q.all, a ≠ u := fun u hu z => ha (by rw [z]; exact mem_foot mq hu)
      have n1 := na q.s (by simp [Lay.all])
      have n2 := na q.e (by simp [Lay.all])
      have n3 := na q.c (by simp [Lay.all])
      simp [Lay.all] at nd ⊢
      obtain ⟨⟨b, c, _⟩, ⟨d, _⟩, _⟩ := nd
      exact ⟨⟨b, c, fun z => n1 z.symm⟩, ⟨d, fun z => n2 z.symm⟩, fun z => n3 z.symm⟩
  · have key : ∀ (i : Nat) (b : Lay) (u : Addr), (qs.set k { q with f := a })[i]? = some b → u ∈ b.all → (∃ b', qs[i]? = some b' ∧ u ∈ b'.all) ∨ (u = a ∧ i = k) := fun i b u hb hu => by
      by_cases c : k = i
      · subst c
        rw [List.getElem?_set_self hk] at hb
        cases hb
        rcases sub u hu with y | y
        · exact .inl ⟨q, hq, y⟩
        · exact .inr ⟨y, rfl⟩
      · rw [List.getElem?_set_ne c] at hb
        exact .inl ⟨b, hb, hu⟩
    rcases key i b u hb hu with ⟨b', h1, h2⟩ | ⟨h1, h2⟩
    · rcases key j c v hc hv with ⟨c', h3, h4⟩ | ⟨h3, h4⟩
      · exact A.two i j b' c' h1 h3 hij u h2 v h4 z
      · exact ha (by rw [← h3, ← z]; exact mem_foot (List.mem_of_getElem? h1) h2)
    · rcases key j c v hc hv with ⟨c', h3, h4⟩ | ⟨h3, h4⟩
      · exact ha (by rw [← h1, z]; exact mem_foot (List.mem_of_getElem? h3) h4)
      · exact hij (h2.trans h4.symm)
theorem PgAt.setfre {CP CS : Addr} {H H' : Hp} {p l a : Addr} {qs : List Lay} {s : Ie14.St} {k : Nat} {q : Lay} {x : Sheet} {nw : List Nat} (G : PgAt CP CS H p l qs s) (hq : qs[k]? = some q) (hx : s.sheets[k]? = some x) (ha : H' a = some (.lst (frs s.n nw))) (naf : a ∉ foot p l qs)
    (h1 : ∃ dx, H' q.s = some (.ins CS dx (sF { q with f := a }))) (keep : ∀ b o, H b = some o → b ≠ q.s → H' b = some o) : PgAt CP CS H' p l (qs.set k { q with f := a }) { s with sheets := s.sheets.set k { x with news := nw } } := by
  have A := apart_of G.nd
  have mq : q ∈ qs := List.mem_of_getElem? hq
  have hk : k < qs.length := (List.getElem?_eq_some_iff.mp hq).1
  have hk2 : k < s.sheets.length := (List.getElem?_eq_some_iff.mp hx).1
  have S := G.at_ k q x hq hx
  have nd := A.in_ q mq
  have hn : q.e ≠ q.s ∧ q.c ≠ q.s := by
    simp [Lay.all] at nd
    obtain ⟨⟨b, c, _⟩, _, _⟩ := nd
    exact ⟨fun z => b z.symm, fun z => c z.symm⟩
  obtain ⟨dx, hp⟩ := G.ins
  refine ⟨⟨dx, keep _ _ hp (A.p_ q mq _ (by simp [Lay.all]))⟩, ?_, ?_, fun j b y hb hy => ?_, nodup_setF G.nd hq naf⟩
  · have e9 : ((qs.set k { q with f := a }).map fun q => V.ref q.s) = qs.map fun q => V.ref q.s := by
      rw [List.map_set]
      obtain ⟨_, eq⟩ := List.getElem?_eq_some_iff.mp hq
      have e8 : (qs.map fun q => V.ref q.s)[k]'(by rw [List.length_map]; exact hk) = V.ref q.s := by rw [List.getElem_map, eq]
      show (qs.map fun q => V.ref q.s).set k (V.ref q.s) = _
      rw [← e8]
      exact List.set_getElem_self _
    rw [e9]
    exact keep _ _ G.lst (A.l_ q mq _ (by simp [Lay.all]))
  · show (qs.set k _).length = (s.sheets.set k _).length
    rw [List.length_set, List.length_set]
    exact G.len
  · have hy : (s.sheets.set k { x with news := nw })[j]? = some y := hy
    by_cases c : k = j
    · subst c
      rw [List.getElem?_set_self hk] at hb
      rw [List.getElem?_set_self hk2] at hy
      cases hb
      cases hy
      exact ⟨h1, keep _ _ S.eff hn.1, keep _ _ S.cel hn.2, ha⟩
    · rw [List.getElem?_set_ne c] at hb hy
      refine (G.at_ j b y hb hy).keep fun u o hu e9 => keep u o e9 fun z => ?_
      exact A.two j k b q hb hq (fun z => c z.symm) u hu q.s (by simp [Lay.all]) z
end Kp
set_option Elab.async false
set_option linter.all false
set_option maxRecDepth 100000
set_option maxHeartbeats 2000000
namespace Kp
open PySem PySem.Spec PyProof.Rows L2
open Ie14 (Effect Sheet near moveFrom around gap inBox cellsAt touched onFrom made effectOf)
abbrev sACells : Stmt := top 37
abbrev sACell : Stmt := top 38
abbrev sALook : Stmt := top 39
abbrev sANeeds : Stmt := top 40
abbrev sAList : Stmt := top 41
theorem ints_lN (l : List Nat) : (Ie14.ints l).map V.int = lN l := by
  unfold Ie14.ints lN
  rw [List.map_map]
  rfl
theorem Post.stay {CP CS : Addr} {H H1 : Hp} {p l b : Addr} {qs : List Lay} {ex : List Addr} {s : Ie14.St} {xs : List Int} {Q : VK} (k : Post CP CS H p l qs ex (s, xs) Q) (G : PgAt CP CS H p l qs s) (s1 : Same H H1) (nb : H b = none) (hb : H1 b = some (.lst (xs.map V.int))) : Q (.ref b) H1 := by
  refine k _ b l qs (G.same s1) hb nb (fun z => ?_) fun u o e hu _ => ⟨s1 u o e, hu⟩
  obtain ⟨o, ho⟩ := G.tracked z
  rw [nb] at ho
  cases ho
/-- a new list t, then b grown by it -/
theorem same_grow {H H' : Hp} {b t : Addr} {o1 o2 : HO} (s : Same H H') (nb : H b = none) (nt : H' t = none) : Same H (upd (upd H' t o1) b o2) := fun u o e => by
  rw [upd_ne (ne_of_none e nb), upd_ne (ne_of_none (s _ _ e) nt)]
  exact s _ _ e
def spACells (CP CS : Addr) : Sp := fun vs H Q _ => ∃ (p l : Addr) (qs : List Lay) (s : Ie14.St) (k : Nat), vs = [.ref p, .int (k : Int)] ∧ PgAt CP CS H p l qs s ∧ Post CP CS H p l qs [] (Ie14.step s (.cells k)) Q
def spACell (CP CS : Addr) : Sp := fun vs H Q _ => ∃ (p l : Addr) (qs : List Lay) (s : Ie14.St) (k x y : Nat), vs = [.ref p, .int (k : Int), .int (x : Int), .int (y : Int)] ∧ PgAt CP CS H p l qs s ∧ Wf s ∧ Post CP CS H p l qs [] (Ie14.step s (.cell k x y)) Q
def spALook (CP CS : Addr) : Sp := fun vs H Q _ => ∃ (p l : Addr) (qs : List Lay) (s : Ie14.St) (k : Nat), vs = [.ref p, .int (k : Int)] ∧ PgAt CP CS H p l qs s ∧ Wf s ∧ Post CP CS H p l qs [] (Ie14.step s (.look k)) Q
def spANeeds (CP CS : Addr) : Sp := fun vs H Q _ => ∃ (p l : Addr) (qs : List Lay) (s : Ie14.St) (k x y : Nat), vs = [.ref p, .int (k : Int), .int (x : Int), .int (y : Int)] ∧ PgAt CP CS H p l qs s ∧ Wf s ∧ Post CP CS H p l qs [] (Ie14.step s (.needs k x y)) Q
def spAList (CP CS : Addr) : Sp := fun vs H Q _ => ∃ (p l : Addr) (qs : List Lay) (s : Ie14.St), vs = [.ref p] ∧ PgAt CP CS H p l qs s ∧ Wf s ∧ Post CP CS H p l qs [] (Ie14.step s .list) Q
section
variable {P : Program} {w : World} {K : PySem.W.Frag} {mg : Str → Option Value} {base : Heap} {CP CS : Addr}
theorem scACells : FnScope ["page", "k"] ["page", "k"] (defScope sACells) := ⟨rfl, rfl, rfl, by decide +kernel, rfl, by decide +kernel, by decide +kernel⟩
theorem ok_acells {f : Addr} {fd : FuncData} (F : Fun K "answer_cells" "answer_cells" sACells f fd) (TC : TxC K mg CP CS) (TK : TxK mg) (hml : mg "list" = none) (C1 : CalM P w K mg base CP "has_sheet" 1 ["self", "k"] (spHasS K CP)) :
    FnOk P w K mg base CX0 2 f fd ["page", "k"] (spACells CP CS) := by
  refine F.ok scACells (fun vs H Q E h => ?_) (fun cdv A outer s H vs Q E hr h => ?_)
  · obtain ⟨p, l, qs, s, k, rfl, _⟩ := h
    rfl
  · obtain ⟨p, l, qs, st, k, rfl, G, kk⟩ := h
    refine ⟨_, pss_cons (ps_if (pt_not (pt_val (pe_mth (pv 0) TC.clP C1 hr (pa_cons (pv 1) pa_nil)))) (pss_one (ps_ret (pe_lst (pa_cons (pe_gi TK.noSheet rfl) pa_nil)))) pss_nil)
      (pss_one (ps_ret (pe_callTy call_list_of (by rfl) hml (by decide +kernel) (pa_cons (pe_fld (pe_ix ix_list (pe_fld (pv 0) rfl) (pv 1) (fun _ _ => rfl)) rfl) pa_nil)))), ?_⟩
    obtain ⟨dx, hp⟩ := G.ins
    have el : (qs.map fun q => V.ref q.s).length = st.sheets.length := by rw [List.length_map]; exact G.len
    refine ⟨_, rfl, p, dx, _, rfl, hp, pF_no, _, rfl, p, dx, l, st.w, st.h, k, _, rfl, hp, G.lst, _, rfl, ?_⟩
    rw [el]
    cases hx : st.sheets[k]? with
    | none =>
      have hk : ¬ k < st.sheets.length := by have := List.getElem?_eq_none_iff.mp hx; omega
      refine if_true_of (by simp [hk]) ⟨(by show 1 ≤ sizeLine; decide), fun b nb => ?_⟩
      have e : Ie14.step st (.cells k) = (st, [-2]) := by simp only [Ie14.step]; rw [hx]
      rw [e] at kk
      exact kk.keep G (Same.refl H) nb
    | some x =>
      have hk : k < st.sheets.length := (List.getElem?_eq_some_iff.mp hx).1
      refine if_false_of (by simp [hk]) ?_
      obtain ⟨q, hq⟩ : ∃ q, qs[k]? = some q := ⟨_, List.getElem?_eq_getElem (by rw [G.len]; exact hk)⟩
      obtain ⟨⟨dx2, g1⟩, g2, g3, g4⟩ := G.at_ k q x hq hx
      refine ⟨_, rfl, p, CP, dx, _, _, rfl, hp, TC.clP, TC.nS, pF_sheets, _, rfl, l, _, _, _, rfl, rfl, SqL.of G.lst, atI_nat (j := k) (v := V.ref q.s) (by rw [List.getElem?_map, hq]; rfl), q.s, CS, dx2, _, _, rfl, g1, TC.clS, TC.nN, sF_numbers, q.c, _, rfl, .inl (SqL.of g3), fun b nb => ?_⟩
      have e : Ie14.step st (.cells k) = (st, Ie14.ints x.cells) := by simp only [Ie14.step]; rw [hx]
      rw [e] at kk
      exact kk.stay G (same_new nb) nb (by rw [upd_same, ints_lN])
theorem scACell : FnScope ["page", "k", "x", "y"] ["page", "k", "x", "y"] (defScope sACell) := ⟨rfl, rfl, rfl, by decide +kernel, rfl, by decide +kernel, by decide +kernel⟩
theorem ok_acell {f : Addr} {fd : FuncData} (F : Fun K "answer_cell" "answer_cell" sACell f fd) (TC : TxC K mg CP CS) (TK : TxK mg) (C1 : CalM P w K mg base CP "has_sheet" 1 ["self", "k"] (spHasS K CP)) (C2 : CalM P w K mg base CP "has_cell" 1 ["self", "x", "y"] (spHasC CP))
    (C3 : CalM P w K mg base CP "cell_at" 1 ["self", "x", "y"] (spCellAt CP)) : FnOk P w K mg base CX0 2 f fd ["page", "k", "x", "y"] (spACell CP CS) := by
  refine F.ok scACell (fun vs H Q E h => ?_) (fun cdv A outer s H vs Q E hr h => ?_)
  · obtain ⟨p, l, qs, s, k, x, y, rfl, _⟩ := h
    rfl
  · obtain ⟨p, l, qs, st, k, x, y, rfl, G, W, kk⟩ := h
    refine ⟨_, pss_cons (ps_if (pt_not (pt_val (pe_mth (pv 0) TC.clP C1 hr (pa_cons (pv 1) pa_nil)))) (pss_one (ps_ret (pe_lst (pa_cons (pe_gi TK.noSheet rfl) pa_nil)))) pss_nil)
      (pss_cons (ps_if (pt_not (pt_val (pe_mth (pv 0) TC.clP C2 hr (pa_cons (pv 2) (pa_cons (pv 3) pa_nil))))) (pss_one (ps_ret (pe_lst (pa_cons (pe_gi TK.noPlace rfl) pa_nil)))) pss_nil)
      (pss_one (ps_ret (pe_lst (pa_cons (pe_ix ix_list (pe_fld (pe_ix ix_list (pe_fld (pv 0) rfl) (pv 1) (fun _ _ => rfl)) rfl) (pe_mth (pv 0) TC.clP C3 hr (pa_cons (pv 2) (pa_cons (pv 3) pa_nil))) (fun _ _ => rfl)) pa_nil))))), ?_⟩
    obtain ⟨dx, hp⟩ := G.ins
    have el : (qs.map fun q => V.ref q.s).length = st.sheets.length := by rw [List.length_map]; exact G.len
    refine ⟨_, rfl, p, dx, _, rfl, hp, pF_no, _, rfl, p, dx, l, st.w, st.h, k, _, rfl, hp, G.lst, _, rfl, ?_⟩
    rw [el]
    cases hx : st.sheets[k]? with
    | none =>
      have hk : ¬ k < st.sheets.length := by have := List.getElem?_eq_none_iff.mp hx; omega
      refine if_true_of (by simp [hk]) ⟨(by show 1 ≤ sizeLine; decide), fun b nb => ?_⟩
      have e : Ie14.step st (.cell k x y) = (st, [-2]) := by simp only [Ie14.step]; rw [hx]
      rw [e] at kk
      exact kk.keep G (Same.refl H) nb
    | some z =>
      have hk : k < st.sheets.length := (List.getElem?_eq_some_iff.mp hx).1
      refine if_false_of (by simp [hk]) ?_
      obtain ⟨q, hq⟩ : ∃ q, qs[k]? = some q := ⟨_, List.getElem?_eq_getElem (by rw [G.len]; exact hk)⟩
      obtain ⟨⟨dx2, g1⟩, g2, g3, g4⟩ := G.at_ k q z hq hx
      refine ⟨_, rfl, p, dx, _, rfl, hp, pF_no, _, rfl, _, rfl, p, dx, l, st.w, st.h, x, y, rfl, hp, _, rfl, ?_⟩
      by_cases c : x < st.w ∧ y < st.h
      · refine if_false_of (by simp [c]) ?_
        have lx : z.cells.length = st.n := (W.cells z (List.mem_of_getElem? hx)).1
        obtain ⟨v, hv⟩ : ∃ v, z.cells[y * st.w + x]? = some v := ⟨_, List.getElem?_eq_getElem (by rw [lx]; exact cell_lt c.1 c.2)⟩
        have e : Ie14.step st (.cell k x y) = (st, Ie14.ints [v]) := by
          simp only [Ie14.step]
          rw [hx]
          dsimp only
          rw [if_neg (by omega), List.getD_eq_getElem?_getD, hv]
          rfl
        rw [e] at kk
        refine ⟨_, rfl, p, CP, dx, _, _, rfl, hp, TC.clP, TC.nS, pF_sheets, _, rfl, l, _, _, _, rfl, rfl, SqL.of G.lst, atI_nat (j := k) (v := V.ref q.s) (by rw [List.getElem?_map, hq]; rfl), q.s, CS, dx2, _, _, rfl, g1, TC.clS, TC.nN, sF_numbers,
          _, rfl, p, dx, _, rfl, hp, pF_no, _, rfl, _, rfl, p, dx, l, st.w, st.h, x, y, rfl, hp, W.w6, q.c, _, _, _, rfl, rfl, SqL.of g3, atI_nat (j := y * st.w + x) (v := .int (v : Int)) (by rw [lN_get, hv]; rfl), (by show 1 ≤ sizeLine; decide), fun b nb => ?_⟩
        exact kk.stay G (same_new nb) nb (by rw [upd_same]; rfl)
      · refine if_true_of (by simp [c]) ⟨(by show 1 ≤ sizeLine; decide), fun b nb => ?_⟩
        have e : Ie14.step st (.cell k x y) = (st, [-1]) := by
          simp only [Ie14.step]
          rw [hx]
          dsimp only
          rw [if_pos (by omega)]
        rw [e] at kk
        exact kk.keep G (Same.refl H) nb
theorem scALook : FnScope ["page", "k", "sheet", "cells", "answer", "cell"] ["page", "k"] (defScope sALook) := ⟨rfl, rfl, rfl, by decide +kernel, rfl, by decide +kernel, by decide +kernel⟩
theorem ok_alook {f : Addr} {fd : FuncData} (F : Fun K "answer_look" "answer_look" sALook f fd) (TC : TxC K mg CP CS) (TE : TxE K mg) (TK : TxK mg) (C1 : CalM P w K mg base CP "has_sheet" 1 ["self", "k"] (spHasS K CP)) (C2 : CalM P w K mg base CS "fresh_cells" 1 ["self"] (spFresh CS))
    (C3 : CalM P w K mg base CS "mark_seen" 1 ["self"] (spSeen CS)) : FnOk P w K mg base CX0 2 f fd ["page", "k"] (spALook CP CS) := by
  refine F.ok scALook (fun vs H Q E h => ?_) (fun cdv A outer s H vs Q E hr h => ?_)
  · obtain ⟨p, l, qs, s, k, rfl, _⟩ := h
    rfl
  · obtain ⟨p, l, qs, st, k, rfl, G, W, kk⟩ := h
    refine ⟨_, pss_cons (ps_if (pt_not (pt_val (pe_mth (pv 0) TC.clP C1 hr (pa_cons (pv 1) pa_nil)))) (pss_one (ps_ret (pe_lst (pa_cons (pe_gi TK.noSheet rfl) pa_nil)))) pss_nil)
      (pss_cons (ps_set (i := 2) scALook.nd rfl (Or.inl rfl) (pe_ix ix_list (pe_fld (pv 0) rfl) (pv 1) (fun _ _ => rfl)))
      (pss_cons (ps_set (i := 3) scALook.nd rfl (Or.inl rfl) (pe_mth0 (pv 2) TC.clS C2 hr))
      (pss_cons (ps_set (i := 4) scALook.nd rfl (Or.inl rfl) (pe_lst (pa_cons (pe_callB call_len_seq (by rfl) TE.len PySem.boot_len (pa_cons (pv 3) pa_nil)) pa_nil)))
      (pss_cons (ps_for PassesOwn.never rfl (pi_list (pv 3)) (pg_name (i := 5) scALook.nd rfl (Or.inl rfl))
        (pss_one (ps_expr (pe_bm PySem.F.plainAttrs_list PySem.F.slot_list_extend PySem.F.type_list_extend mt_extend (pv 4) (pa_cons (pe_lst (pa_cons (pv 5) (pa_cons (pe_ix ix_list (pe_fld (pv 2) rfl) (pv 5) (fun _ _ => rfl)) pa_nil))) pa_nil)))))
      (pss_cons (ps_expr (pe_mth0 (pv 2) TC.clS C3 hr))
      (pss_one (ps_ret (pv 4)))))))), ?_⟩
    obtain ⟨dx, hp⟩ := G.ins
    have el : (qs.map fun q => V.ref q.s).length = st.sheets.length := by rw [List.length_map]; exact G.len
    refine ⟨_, rfl, p, dx, _, rfl, hp, pF_no, _, rfl, p, dx, l, st.w, st.h, k, _, rfl, hp, G.lst, _, rfl, ?_⟩
    rw [el]
    cases hx : st.sheets[k]? with
    | none =>
      have hk : ¬ k < st.sheets.length := by have := List.getElem?_eq_none_iff.mp hx; omega
      refine if_true_of (by simp [hk]) ⟨(by show 1 ≤ sizeLine; decide), fun b nb => ?_⟩
      have e : Ie14.step st (.look k) = (st, [-2]) := by simp only [Ie14.step]; rw [hx]
      rw [e] at kk
      exact kk.keep G (Same.refl H) nb
    | some x =>
      have hk : k < st.sheets.length := (List.getElem?_eq_some_iff.mp hx).1
      refine if_false_of (by simp [hk]) ?_
      obtain ⟨q, hq⟩ : ∃ q, qs[k]? = some q := ⟨_, List.getElem?_eq_getElem (by rw [G.len]; exact hk)⟩
      obtain ⟨⟨dx2, g1⟩, g2, g3, g4⟩ := G.at_ k q x hq hx
      have esz : sizeLine = 16777216 := sizeLine_eq
      have lx : x.cells.length = st.n := (W.cells x (List.mem_of_getElem? hx)).1
      have nw := (W.sh k x hx).nw
      have n36 : st.n ≤ 36 := W.n36
      have nwl : x.news.length ≤ 36 := by
        rw [nw]
        exact Nat.le_trans (List.length_filter_le _ _) (by simpa using n36)
      have e : Ie14.step st (.look k) = ({ st with sheets := st.sheets.set k { x with news := [] } }, Ie14.ints (x.news.length :: x.news.flatMap fun i => [i, x.cells.getD i 0])) := by
        simp only [Ie14.step]
        rw [hx]
      rw [e] at kk
      refine ⟨_, rfl, p, CP, dx, _, _, rfl, hp, TC.clP, TC.nS, pF_sheets, _, rfl, l, _, _, _, rfl, rfl, SqL.of G.lst, atI_nat (j := k) (v := V.ref q.s) (by rw [List.getElem?_map, hq]; rfl), ?_⟩
      refine ⟨_, rfl, q.s, dx2, _, rfl, g1, sF_no, dx2, q, st.n, x.news, rfl, g1, g4, n36, fun H1 c s1 nc hc => ?_⟩
      rw [← nw] at hc
      refine ⟨_, rfl, c, _, rfl, .inl (SqL.of hc), (by show 1 ≤ sizeLine; decide), fun b nb => ?_⟩
      have nbH := Same.free s1 nb
      have s2 : Same H1 (upd H1 b (.lst [.int (((lN x.news).length : Nat) : Int)])) := same_new nb
      refine ⟨_, rfl, c, rfl, ⟨_, SqL.of (s2 _ _ hc)⟩, for_list (K := K) (a := c) (xs := lN x.news) (fun j σ H' => ∃ v5 : Option V, σ = [some (.ref p), some (.int (k : Int)), some (.ref q.s), some (.ref c), some (.ref b), v5] ∧ Same H1 H' ∧ H' b = some (.lst (lN (x.news.length :: (x.news.take j).flatMap fun i => [i, x.cells.getD i 0]))))
        ⟨none, rfl, s2, by rw [upd_same, lN_length]; rfl⟩ (fun j σ H' _ ⟨_, _, s3, _⟩ => SqL.of (s3 _ _ hc)) ?_ ?_⟩
      · rintro j y σ H' hy ⟨v5, rfl, s3, hb⟩
        rw [lN_get] at hy
        obtain ⟨i, hi, rfl⟩ := Option.map_eq_some_iff.mp hy
        have hin : i < st.n := by
          have := List.mem_of_getElem? hi
          rw [nw] at this
          exact List.mem_range.mp (List.mem_filter.mp this).1
        obtain ⟨z, hz⟩ : ∃ z, x.cells[i]? = some z := ⟨_, List.getElem?_eq_getElem (by rw [lx]; exact hin)⟩
        refine ⟨_, rfl, .inl ⟨rfl, _, SqL.of hb⟩, _, rfl, _, rfl, q.s, CS, dx2, _, _, rfl, s3 _ _ (s1 _ _ g1), TC.clS, TC.nN, sF_numbers, _, rfl, q.c, _, _, _, rfl, rfl, SqL.of (s3 _ _ (s1 _ _ g3)), atI_nat (j := i) (v := .int (z : Int)) (by rw [lN_get, hz]; rfl), (by show 2 ≤ sizeLine; decide), fun t nt => ?_⟩
        have nbt : b ≠ t := fun z => by rw [z, nt] at hb; cases hb
        have hl2 : ((x.news.take j).flatMap fun i => [i, x.cells.getD i 0]).length ≤ 72 := by
          have h1 : ∀ l : List Nat, (l.flatMap fun i => [i, x.cells.getD i 0]).length = 2 * l.length := by
            intro l
            induction l with
            | nil => rfl
            | cons a l ih => rw [List.flatMap_cons, List.length_append, ih]; simp only [List.length_cons, List.length_nil]; omega
          rw [h1, List.length_take]
          omega
        refine ⟨b, t, _, _, rfl, rfl, by rw [upd_ne nbt]; exact hb, upd_same, ?_, some (.int (i : Int)), rfl, same_grow s3 nb nt, ?_⟩
        · rw [lN_length, List.length_cons, esz]
          show _ + 1 + 2 ≤ _
          omega
        · rw [upd_same, List.take_add_one, hi, List.flatMap_append]
          have ez : x.cells.getD i 0 = z := by rw [List.getD_eq_getElem?_getD, hz]; rfl
          show some (HO.lst (lN _ ++ [V.int (i : Int), V.int (z : Int)])) = some (HO.lst (lN (x.news.length :: (_ ++ [i, x.cells.getD i 0]))))
          rw [ez]
          unfold lN
          simp
      · rintro σ H' ⟨v5, rfl, s3, hb⟩
        rw [lN_length, List.take_length] at hb
        refine ⟨_, rfl, q.s, dx2, _, rfl, s3 _ _ (s1 _ _ g1), sF_no, dx2, q, _, rfl, s3 _ _ (s1 _ _ g1), s3 _ _ (s1 _ _ g3), by rw [lN_length, lx]; exact n36, fun H3 f3 h1 nf hf O3 => ⟨_, rfl, ?_⟩⟩
        have s4 : Same H H' := Same.trans s1 s3
        have G4 := G.same s4
        have naf : f3 ∉ foot p l qs := fun z => by
          obtain ⟨o, ho⟩ := G4.tracked z
          rw [nf] at ho
          cases ho
        have nbs : b ≠ q.s := fun z => by rw [z, g1] at nbH; cases nbH
        have k3 : ∀ u o, H' u = some o → u ≠ q.s → H3 u = some o := fun u o e hu => O3 u o e fun z => hu (List.mem_singleton.mp z)
        rw [frs_nil, lN_length, lx] at hf
        have G5 := G4.setfre hq hx hf naf ⟨dx2, h1⟩ k3
        have sub := foot_setF (p := p) (l := l) (a := f3) hq
        have msf : q.s ∈ foot p l qs := mem_foot (List.mem_of_getElem? hq) (by simp [Lay.all])
        refine kk H3 b l _ G5 (by rw [ints_lN]; exact k3 _ _ hb nbs) nbH (fun z => ?_) fun u o e9 hu _ => ⟨k3 _ _ (s4 _ _ e9) fun z => hu (by rw [z]; exact msf), fun z => ?_⟩
        · rcases List.mem_cons.mp (sub b z) with z | z
          · rw [← z, hb] at nf
            cases nf
          · obtain ⟨o, ho⟩ := G.tracked z
            rw [nbH] at ho
            cases ho
        · rcases List.mem_cons.mp (sub u z) with z | z
          · rw [← z, s4 _ _ e9] at nf
            cases nf
          · exact hu z
theorem scANeeds : FnScope ["page", "k", "x", "y", "needed", "answer", "told", "cell"] ["page", "k", "x", "y"] (defScope sANeeds) := ⟨rfl, rfl, rfl, by decide +kernel, rfl, by decide +kernel, by decide +kernel⟩
theorem ok_aneeds {f : Addr} {fd : FuncData} (F : Fun K "answer_needs" "answer_needs" sANeeds f fd) (TC : TxC K mg CP CS) (TE : TxE K mg) (TK : TxK mg) (C1 : CalM P w K mg base CP "has_sheet" 1 ["self", "k"] (spHasS K CP)) (C2 : CalM P w K mg base CP "has_cell" 1 ["self", "x", "y"] (spHasC CP))
    (C3 : CalM P w K mg base CP "cell_at" 1 ["self", "x", "y"] (spCellAt CP)) (C4 : Cal P w K mg base "needed_cells" 2 ["effect", "cell", "wide", "high"] (spNeeds K)) : FnOk P w K mg base CX0 3 f fd ["page", "k", "x", "y"] (spANeeds CP CS) := by
  refine F.ok scANeeds (fun vs H Q E h => ?_) (fun cdv A outer s H vs Q E hr h => ?_)
  · obtain ⟨p, l, qs, s, k, x, y, rfl, _⟩ := h
    rfl
  · obtain ⟨p, l, qs, st, k, x, y, rfl, G, W, kk⟩ := h
    have hr1 : Room 1 _ := hr.mono (by decide)
    refine ⟨_, pss_cons (ps_if (pt_not (pt_val (pe_mth (pv 0) TC.clP C1 hr1 (pa_cons (pv 1) pa_nil)))) (pss_one (ps_ret (pe_lst (pa_cons (pe_gi TK.noSheet rfl) pa_nil)))) pss_nil)
      (pss_cons (ps_if (pt_not (pt_val (pe_mth (pv 0) TC.clP C2 hr1 (pa_cons (pv 2) (pa_cons (pv 3) pa_nil))))) (pss_one (ps_ret (pe_lst (pa_cons (pe_gi TK.noPlace rfl) pa_nil)))) pss_nil)
      (pss_cons (ps_set (i := 4) scANeeds.nd rfl (Or.inl rfl) (pe_cal C4 hr rfl (pa_cons (pe_fld (pe_ix ix_list (pe_fld (pv 0) rfl) (pv 1) (fun _ _ => rfl)) rfl) (pa_cons (pe_mth (pv 0) TC.clP C3 hr1 (pa_cons (pv 2) (pa_cons (pv 3) pa_nil))) (pa_cons (pe_fld (pv 0) rfl) (pa_cons (pe_fld (pv 0) rfl) pa_nil))))))
      (pss_cons (ps_set (i := 5) scANeeds.nd rfl (Or.inl rfl) (pe_lst (pa_cons (pe_callB call_len_seq (by rfl) TE.len PySem.boot_len (pa_cons (pv 4) pa_nil)) pa_nil)))
      (pss_cons (ps_for PassesOwn.never rfl (pi_list (pv 4)) (pg_tup rfl (pgs_cons (pg_name (i := 6) scANeeds.nd rfl (Or.inl rfl)) (pgs_cons (pg_name (i := 7) scANeeds.nd rfl (Or.inl rfl)) pgs_nil)))
        (pss_one (ps_expr (pe_bm PySem.F.plainAttrs_list PySem.F.slot_list_extend PySem.F.type_list_extend mt_extend (pv 5) (pa_cons (pe_lst (pa_cons (pv 6) (pa_cons (pv 7) pa_nil))) pa_nil)))))
      (pss_one (ps_ret (pv 5))))))), ?_⟩
    obtain ⟨dx, hp⟩ := G.ins
    have el : (qs.map fun q => V.ref q.s).length = st.sheets.length := by rw [List.length_map]; exact G.len
    refine ⟨_, rfl, p, dx, _, rfl, hp, pF_no, _, rfl, p, dx, l, st.w, st.h, k, _, rfl, hp, G.lst, _, rfl, ?_⟩
    rw [el]
    cases hx : st.sheets[k]? with
    | none =>
      have hk : ¬ k < st.sheets.length := by have := List.getElem?_eq_none_iff.mp hx; omega
      refine if_true_of (by simp [hk]) ⟨(by show 1 ≤ sizeLine; decide), fun b nb => ?_⟩
      have e : Ie14.step st (.needs k x y) = (st, [-2]) := by simp only [Ie14.step]; rw [hx]
      rw [e] at kk
      exact kk.keep G (Same.refl H) nb
    | some z =>
      have hk : k < st.sheets.length := (List.getElem?_eq_some_iff.mp hx).1
      refine if_false_of (by simp [hk]) ?_
      obtain ⟨q, hq⟩ : ∃ q, qs[k]? = some q := ⟨_, List.getElem?_eq_getElem (by rw [G.len]; exact hk)⟩
      obtain ⟨⟨dx2, g1⟩, g2, g3, g4⟩ := G.at_ k q z hq hx
      have esz : sizeLine = 16777216 := sizeLine_eq
      refine ⟨_, rfl, p, dx, _, rfl, hp, pF_no, _, rfl, _, rfl, p, dx, l, st.w, st.h, x, y, rfl, hp, _, rfl, ?_⟩
      by_cases c : x < st.w ∧ y < st.h
      · refine if_false_of (by simp [c]) ?_
        have e : Ie14.step st (.needs k x y) = (st, Ie14.ints ((z.effect.needs st.w st.h (y * st.w + x)).length :: (z.effect.needs st.w st.h (y * st.w + x)).flatMap fun q => [q.1, q.2])) := by
          simp only [Ie14.step]
          rw [hx]
          dsimp only
          rw [if_neg (by omega)]
        rw [e] at kk
        have hln := needs_len z.effect (i := y * st.w + x) W.n36
        refine ⟨_, rfl, p, CP, dx, _, _, rfl, hp, TC.clP, TC.nS, pF_sheets, _, rfl, l, _, _, _, rfl, rfl, SqL.of G.lst, atI_nat (j := k) (v := V.ref q.s) (by rw [List.getElem?_map, hq]; rfl), q.s, CS, dx2, _, _, rfl, g1, TC.clS, TC.nE, sF_effect,
          _, rfl, p, dx, _, rfl, hp, pF_no, _, rfl, _, rfl, p, dx, l, st.w, st.h, x, y, rfl, hp, W.w6, _, rfl, p, CP, dx, _, _, rfl, hp, TC.clP, TC.nW, pF_wide, _, rfl, p, CP, dx, _, _, rfl, hp, TC.clP, TC.nH, pF_high,
          q.e, z.effect, y * st.w + x, st.w, st.h, rfl, SqL.of g2, W.w0, W.w6, W.h0, W.h6, cell_lt c.1 c.2, fun H1 a ts s1 na ha T => ?_⟩
        generalize z.effect.needs st.w st.h (y * st.w + x) = L at T kk hln
        refine ⟨_, rfl, a, _, rfl, .inl (SqL.of ha), (by show 1 ≤ sizeLine; decide), fun b nb => ?_⟩
        have nbH := Same.free s1 nb
        have s2 : Same H1 (upd H1 b (.lst [.int (((ts.map V.ref).length : Nat) : Int)])) := same_new nb
        refine ⟨_, rfl, a, rfl, ⟨_, SqL.of (s2 _ _ ha)⟩, for_list (K := K) (a := a) (xs := ts.map V.ref) (fun j σ H' => ∃ v6 v7 : Option V, σ = [some (.ref p), some (.int (k : Int)), some (.int (x : Int)), some (.int (y : Int)), some (.ref a), some (.ref b), v6, v7] ∧ Same H1 H' ∧ H' b = some (.lst (lN (L.length :: (L.take j).flatMap fun q => [q.1, q.2]))))
          ⟨none, none, rfl, s2, by rw [upd_same, List.length_map, T.1]; rfl⟩ (fun j σ H' _ ⟨_, _, _, s3, _⟩ => SqL.of (s3 _ _ ha)) ?_ ?_⟩
        · rintro j v σ H' hy ⟨v6, v7, rfl, s3, hb⟩
          rw [List.getElem?_map] at hy
          obtain ⟨t, ht, rfl⟩ := Option.map_eq_some_iff.mp hy
          obtain ⟨r, hr9, hrt⟩ := T.2 j t ht
          refine ⟨t, _, rfl, SqT.of (s3 _ _ hrt), rfl, _, _, rfl, _, _, rfl, rfl, ?_⟩
          refine ⟨_, rfl, .inl ⟨rfl, _, SqL.of hb⟩, _, rfl, _, rfl, (by show 2 ≤ sizeLine; decide), fun t2 nt => ?_⟩
          have nbt : b ≠ t2 := fun z => by rw [z, nt] at hb; cases hb
          have hl2 : ((L.take j).flatMap fun q => [q.1, q.2]).length ≤ 72 := by
            have h1 : ∀ l : List (Nat × Nat), (l.flatMap fun q => [q.1, q.2]).length = 2 * l.length := by
              intro l
              induction l with
              | nil => rfl
              | cons a l ih => rw [List.flatMap_cons, List.length_append, ih]; simp only [List.length_cons, List.length_nil]; omega
            rw [h1, List.length_take]
            omega
          refine ⟨b, t2, _, _, rfl, rfl, by rw [upd_ne nbt]; exact hb, upd_same, ?_, some (.int (r.1 : Int)), some (.int (r.2 : Int)), rfl, same_grow s3 nb nt, ?_⟩
          · rw [lN_length, List.length_cons, esz]
            show _ + 1 + 2 ≤ _
            omega
          · rw [upd_same, List.take_add_one, hr9, List.flatMap_append]
            show some (HO.lst (lN _ ++ [V.int (r.1 : Int), V.int (r.2 : Int)])) = some (HO.lst (lN (L.length :: (_ ++ [r.1, r.2]))))
            unfold lN
            simp
        · rintro σ H' ⟨v6, v7, rfl, s3, hb⟩
          rw [List.length_map, T.1, List.take_length] at hb
          exact ⟨_, rfl, kk.stay G (Same.trans s1 s3) nbH (by rw [ints_lN]; exact hb)⟩
      · refine if_true_of (by simp [c]) ⟨(by show 1 ≤ sizeLine; decide), fun b nb => ?_⟩
        have e : Ie14.step st (.needs k x y) = (st, [-1]) := by
          simp only [Ie14.step]
          rw [hx]
          dsimp only
          rw [if_pos (by omega)]
        rw [e] at kk
        exact kk.keep G (Same.refl H) nb
theorem scAList : FnScope ["page", "answer", "sheet"] ["page"] (defScope sAList) := ⟨rfl, rfl, rfl, by decide +kernel, rfl, by decide +kernel, by decide +kernel⟩
theorem ok_alist {f : Addr} {fd : FuncData} (F : Fun K "answer_list" "answer_list" sAList f fd) (TC : TxC K mg CP CS) (TE : TxE K mg) (C1 : Cal P w K mg base "sheets_told" 1 ["effect"] (spTold K)) (C2 : CalM P w K mg base CS "fresh_cells" 1 ["self"] (spFresh CS)) :
    FnOk P w K mg base CX0 2 f fd ["page"] (spAList CP CS) := by
  refine F.ok scAList (fun vs H Q E h => ?_) (fun cdv A outer s H vs Q E hr h => ?_)
  · obtain ⟨p, l, qs, s, rfl, _⟩ := h
    rfl
  · obtain ⟨p, l, qs, st, rfl, G, W, kk⟩ := h
    refine ⟨_, pss_cons (ps_set (i := 1) scAList.nd rfl (Or.inl rfl) (pe_lst (pa_cons (pe_callB call_len_seq (by rfl) TE.len PySem.boot_len (pa_cons (pe_fld (pv 0) rfl) pa_nil)) pa_nil)))
      (pss_cons (ps_for PassesOwn.never rfl (pi_list (pe_fld (pv 0) rfl)) (pg_name (i := 2) scAList.nd rfl (Or.inl rfl))
        (pss_one (ps_expr (pe_bm PySem.F.plainAttrs_list PySem.F.slot_list_extend PySem.F.type_list_extend mt_extend (pv 1) (pa_cons (pe_lst
          (pa_cons (pe_callB call_len_seq (by rfl) TE.len PySem.boot_len (pa_cons (pe_cal C1 hr rfl (pa_cons (pe_fld (pv 2) rfl) pa_nil)) pa_nil))
          (pa_cons (pe_callB call_len_seq (by rfl) TE.len PySem.boot_len (pa_cons (pe_mth0 (pv 2) TC.clS C2 hr) pa_nil))
          (pa_cons (pe_callB (cr_sum rfl) (by rfl) TE.sum (by decide +kernel) (pa_cons (pe_fld (pv 2) rfl) pa_nil)) pa_nil)))) pa_nil)))))
      (pss_one (ps_ret (pv 1)))), ?_⟩
    obtain ⟨dx, hp⟩ := G.ins
    have el : (qs.map fun q => V.ref q.s).length = st.sheets.length := by rw [List.length_map]; exact G.len
    have esz : sizeLine = 16777216 := sizeLine_eq
    have ten := W.ten
    have n36 : st.n ≤ 36 := W.n36
    have e : Ie14.step st .list = (st, Ie14.ints (st.sheets.length :: st.sheets.flatMap fun x => [x.effect.of.length, x.news.length, Ie14.sum x.cells])) := rfl
    rw [e] at kk
    refine ⟨_, rfl, p, CP, dx, _, _, rfl, hp, TC.clP, TC.nS, pF_sheets, l, _, rfl, .inl (SqL.of G.lst), (by show 1 ≤ sizeLine; decide), fun b nb => ?_⟩
    rw [el]
    have s0 : Same H (upd H b (.lst [.int ((st.sheets.length : Nat) : Int)])) := same_new nb
    refine ⟨_, rfl, p, CP, dx, _, _, rfl, s0 _ _ hp, TC.clP, TC.nS, pF_sheets, l, rfl, ⟨_, SqL.of (s0 _ _ G.lst)⟩, for_list (K := K) (a := l) (xs := qs.map fun q => V.ref q.s) (fun j σ H' => ∃ v2 : Option V, σ = [some (.ref p), some (.ref b), v2] ∧ Same H H' ∧
        H' b = some (.lst (lN (st.sheets.length :: (st.sheets.take j).flatMap fun x => [x.effect.of.length, x.news.length, Ie14.sum x.cells]))))
      ⟨none, rfl, s0, by rw [upd_same]; rfl⟩ (fun j σ H' _ ⟨_, _, s3, _⟩ => SqL.of (s3 _ _ G.lst)) ?_ ?_⟩
    · rintro j v σ H' hy ⟨v2, rfl, s3, hb⟩
      rw [List.getElem?_map] at hy
      obtain ⟨q, hq, rfl⟩ := Option.map_eq_some_iff.mp hy
      have lt1 : j < st.sheets.length := by rw [← G.len]; exact (List.getElem?_eq_some_iff.mp hq).1
      obtain ⟨x, hx⟩ : ∃ x, st.sheets[j]? = some x := ⟨_, List.getElem?_eq_getElem lt1⟩
      obtain ⟨⟨dx2, g1⟩, g2, g3, g4⟩ := G.at_ j q x hq hx
      rw [enc_kind] at g2
      have nw := (W.sh j x hx).nw
      refine ⟨_, rfl, .inl ⟨rfl, _, SqL.of hb⟩, _, rfl, q.s, CS, dx2, _, _, rfl, s3 _ _ g1, TC.clS, TC.nE, sF_effect, q.e, kindE x.effect, tailE x.effect, rfl, SqL.of (s3 _ _ g2), kind_lt x.effect, fun H4 c1 s4 nc1 hc1 => ?_⟩
      rw [tail_told] at hc1
      have s5 := Same.trans s3 s4
      refine ⟨c1, _, rfl, .inl (SqL.of hc1), _, rfl, q.s, dx2, _, rfl, s5 _ _ g1, sF_no, dx2, q, st.n, x.news, rfl, s5 _ _ g1, s5 _ _ g4, n36, fun H6 c2 s6 nc2 hc2 => ?_⟩
      rw [← nw] at hc2
      have s7 := Same.trans s5 s6
      have hb7 := s6 _ _ (s4 _ _ hb)
      have g37 := s7 _ _ g3
      rw [lN_int] at g37
      refine ⟨c2, _, rfl, .inl (SqL.of hc2), _, rfl, q.s, CS, dx2, _, _, rfl, s7 _ _ g1, TC.clS, TC.nN, sF_numbers, q.c, _, rfl, SqL.of g37, (by show 3 ≤ sizeLine; decide), fun t nt => ?_⟩
      have nbt : b ≠ t := fun z => by rw [z, nt] at hb7; cases hb7
      have hl2 : ((st.sheets.take j).flatMap fun x => [x.effect.of.length, x.news.length, Ie14.sum x.cells]).length ≤ 30 := by
        have h1 : ∀ l : List Sheet, (l.flatMap fun x => [x.effect.of.length, x.news.length, Ie14.sum x.cells]).length = 3 * l.length := by
          intro l
          induction l with
          | nil => rfl
          | cons a l ih => rw [List.flatMap_cons, List.length_append, ih]; simp only [List.length_cons, List.length_nil]; omega
        rw [h1, List.length_take]
        omega
      refine ⟨b, t, _, _, rfl, rfl, by rw [upd_ne nbt]; exact hb7, upd_same, ?_, some (.ref q.s), rfl, same_grow s7 nb nt, ?_⟩
      · rw [lN_length, List.length_cons, esz]
        show _ + 1 + 3 ≤ _
        omega
      · rw [upd_same, List.take_add_one, hx, List.flatMap_append, sum_int, lN_length, lN_length]
        show some (HO.lst (lN _ ++ [V.int _, V.int _, V.int _])) = some (HO.lst (lN (st.sheets.length :: (_ ++ [x.effect.of.length, x.news.length, Ie14.sum x.cells]))))
        unfold lN
        simp
    · rintro σ H' ⟨v2, rfl, s3, hb⟩
      rw [el, List.take_length] at hb
      exact ⟨_, rfl, kk.stay G s3 nb (by rw [ints_lN]; exact hb)⟩
end
end Kp
set_option Elab.async false
set_option linter.all false
namespace Kp
/-! ### what is handed in, as a row of calls -/
def flat : Ie14.Call → List Nat
  | .page w h => [0, w, h]
  | .sheet t => 1 :: t.length :: t
  | .dot k x y n => [2, k, x, y, n]
  | .box k x y u v n => [3, k, x, y, u, v, n]
  | .effect k t => 4 :: k :: t.length :: t
  | .cells k => [5, k]
  | .cell k x y => [6, k, x, y]
  | .look k => [7, k]
  | .needs k x y => [8, k, x, y]
  | .list => [9]
def M32 : Nat := 4294967295
def okC : Ie14.Call → Prop
  | .page w h => w ≤ M32 ∧ h ≤ M32
  | .sheet t => t.length ≤ 10 ∧ ∀ v ∈ t, v ≤ M32
  | .dot k x y n => k ≤ M32 ∧ x ≤ M32 ∧ y ≤ M32 ∧ n ≤ M32
  | .box k x y u v n => k ≤ M32 ∧ x ≤ M32 ∧ y ≤ M32 ∧ u ≤ M32 ∧ v ≤ M32 ∧ n ≤ M32
  | .effect k t => k ≤ M32 ∧ t.length ≤ 10 ∧ ∀ v ∈ t, v ≤ M32
  | .cells k => k ≤ M32
  | .cell k x y => k ≤ M32 ∧ x ≤ M32 ∧ y ≤ M32
  | .look k => k ≤ M32
  | .needs k x y => k ≤ M32 ∧ x ≤ M32 ∧ y ≤ M32
  | .list => True
def asI (l : List Nat) : List Int := l.map fun (n : Nat) => (n : Int)
/-- a row of calls played -/
def play : Ie14.St → List Ie14.Call → List (List Int)
  | _, [] => []
  | s, c :: r => (Ie14.step s c).2 :: play (Ie14.step s c).1 r
theorem nat_of {z : Int} (h : PyInside.within 0 4294967295 z = true) : ∃ n : Nat, z = (n : Int) ∧ n ≤ M32 := by
  unfold PyInside.within at h
  rw [Bool.and_eq_true, decide_eq_true_iff, decide_eq_true_iff] at h
  exact ⟨z.toNat, by omega, by unfold M32; omega⟩
theorem nats_of : ∀ {l : List Int}, l.all (PyInside.within 0 4294967295) = true → ∃ t : List Nat, l = asI t ∧ ∀ v ∈ t, v ≤ M32
  | [], _ => ⟨[], rfl, fun v hv => by cases hv⟩
  | z :: l, h => by
    rw [List.all_cons, Bool.and_eq_true] at h
    obtain ⟨n, e, hn⟩ := nat_of h.1
    obtain ⟨t, e2, ht⟩ := nats_of h.2
    refine ⟨n :: t, by rw [e, e2]; rfl, fun v hv => ?_⟩
    rcases List.mem_cons.mp hv with hv | hv
    · rw [hv]; exact hn
    · exact ht v hv
theorem nat_all : ∀ (t : List Nat), (∀ v ∈ t, v ≤ M32) → (asI t).all Ie14Neutral.nat = true
  | [], _ => rfl
  | n :: t, h => by
    show ((Ie14Neutral.nat (n : Int)) && (asI t).all Ie14Neutral.nat) = true
    rw [nat_all t fun v hv => h v (List.mem_cons_of_mem _ hv), Bool.and_true]
    have h1 := h n (List.mem_cons_self ..)
    unfold M32 at h1
    unfold Ie14Neutral.nat
    rw [Bool.and_eq_true, decide_eq_true_iff, decide_eq_true_iff]
    constructor <;> omega
theorem toNat_all (t : List Nat) : (asI t).map Int.toNat = t := by
  unfold asI
  rw [List.map_map]
  exact List.map_id'' (fun n => rfl) t
theorem callOf_nat {t : List Nat} (h : ∀ v ∈ t, v ≤ M32) : Ie14Neutral.callOf (asI t) = Ie14Neutral.callIn t := by
  unfold Ie14Neutral.callOf
  rw [if_neg (by rw [nat_all t h]; decide), toNat_all]
theorem step_of {s : Ie14.St} {t : List Nat} {c : Ie14.Call} (h : ∀ v ∈ t, v ≤ M32) (e : Ie14Neutral.callIn t = some c) : Ie14Neutral.step s (asI t) = Ie14.step s c := by
  unfold Ie14Neutral.step
  rw [callOf_nat h, e]
/-! each call that is asked is one of the document's, and is written as flat says -/
theorem il0 {α : Type} {l : List α} (h : l.length = 0) : l = [] := by
  match l, h with
  | [], _ => exact rfl
theorem il1 {α : Type} {l : List α} (h : l.length = 1) : ∃ a0, l = [a0] := by
  match l, h with
  | [a0], _ => exact ⟨a0, rfl⟩
theorem il2 {α : Type} {l : List α} (h : l.length = 2) : ∃ a0 a1, l = [a0, a1] := by
  match l, h with
  | [a0, a1], _ => exact ⟨a0, a1, rfl⟩
theorem il3 {α : Type} {l : List α} (h : l.length = 3) : ∃ a0 a1 a2, l = [a0, a1, a2] := by
  match l, h with
  | [a0, a1, a2], _ => exact ⟨a0, a1, a2, rfl⟩
theorem il4 {α : Type} {l : List α} (h : l.length = 4) : ∃ a0 a1 a2 a3, l = [a0, a1, a2, a3] := by
  match l, h with
  | [a0, a1, a2, a3], _ => exact ⟨a0, a1, a2, a3, rfl⟩
theorem il6 {α : Type} {l : List α} (h : l.length = 6) : ∃ a0 a1 a2 a3 a4 a5, l = [a0, a1, a2, a3, a4, a5] := by
  match l, h with
  | [a0, a1, a2, a3, a4, a5], _ => exact ⟨a0, a1, a2, a3, a4, a5, rfl⟩
theorem one_call {c : List (List Int)} (hs : PyFlat.okCall PyIe14.shape c) (hb : PyInside.call PyIe14.bound c = true) : ∃ ic : Ie14.Call, okC ic ∧ PyFlat.put1 c = asI (flat ic) ∧ ∀ s, Ie14Neutral.step s ((PyIe14.whole c).headD []) = Ie14.step s ic := by
  obtain ⟨p, a, xs, rfl, hsh⟩ := hs
  have hp : p = 0 ∨ p = 1 ∨ p = 2 ∨ p = 3 ∨ p = 4 ∨ p = 5 ∨ p = 6 ∨ p = 7 ∨ p = 8 ∨ p = 9 := by
    unfold PyIe14.shape at hsh
    repeat (split at hsh; · simp [*])
    cases hsh
  rcases hp with rfl | rfl | rfl | rfl | rfl | rfl | rfl | rfl | rfl | rfl
  · obtain ⟨e1, e2⟩ := Prod.mk.inj (Option.some.inj (show some (2, 0) = some (a.length, xs.length) from hsh))
    obtain ⟨w, h, rfl⟩ := il2 e1.symm
    obtain rfl := il0 e2.symm
    have hb : (PyInside.each [(0, 4294967295), (0, 4294967295)] [w, h] && PyInside.lists [] []) = true := hb
    simp only [PyInside.each, PyInside.lists, Bool.and_eq_true, decide_eq_true_eq, and_true, true_and, Bool.true_and, Bool.and_true] at hb
    obtain ⟨hw, hh⟩ := hb
    obtain ⟨w, rfl, gw⟩ := nat_of hw
    obtain ⟨h, rfl, gh⟩ := nat_of hh
    refine ⟨.page w h, ⟨gw, gh⟩, rfl, fun s => step_of (t := [0, w, h]) ?_ rfl⟩
    intro v hv
    simp only [List.mem_cons, List.not_mem_nil, or_false] at hv
    rcases hv with hv | hv | hv <;> subst hv <;> first | assumption | (unfold M32; decide)
  · obtain ⟨e1, e2⟩ := Prod.mk.inj (Option.some.inj (show some (0, 1) = some (a.length, xs.length) from hsh))
    obtain rfl := il0 e1.symm
    obtain ⟨r, rfl⟩ := il1 e2.symm
    have hb : (PyInside.each [] [] && PyInside.lists [(0, 4294967295, 0, 10)] [r]) = true := hb
    simp only [PyInside.each, PyInside.lists, Bool.and_eq_true, decide_eq_true_eq, and_true, true_and, Bool.true_and, Bool.and_true] at hb
    obtain ⟨⟨_, hl⟩, hr⟩ := hb
    obtain ⟨t, rfl, ht⟩ := nats_of hr
    have hl' : t.length ≤ 10 := by simpa [asI] using hl
    refine ⟨.sheet t, ⟨hl', ht⟩, ?_, fun s => step_of (t := 1 :: t) ?_ rfl⟩
    · show ((1 : Nat) : Int) :: (((asI t).length : Nat) : Int) :: (asI t ++ []) = _
      rw [List.append_nil, show (asI t).length = t.length from List.length_map ..]
      rfl
    · intro v hv
      simp only [List.mem_cons] at hv
      rcases hv with hv | hv
      · subst hv; unfold M32; decide
      · exact ht v hv
  · obtain ⟨e1, e2⟩ := Prod.mk.inj (Option.some.inj (show some (4, 0) = some (a.length, xs.length) from hsh))
    obtain ⟨k, x, y, n, rfl⟩ := il4 e1.symm
    obtain rfl := il0 e2.symm
    have hb : (PyInside.each [(0, 4294967295), (0, 4294967295), (0, 4294967295), (0, 4294967295)] [k, x, y, n] && PyInside.lists [] []) = true := hb
    simp only [PyInside.each, PyInside.lists, Bool.and_eq_true, decide_eq_true_eq, and_true, true_and, Bool.true_and, Bool.and_true] at hb
    obtain ⟨hk, hx, hy, hn⟩ := hb
    obtain ⟨k, rfl, gk⟩ := nat_of hk
    obtain ⟨x, rfl, gx⟩ := nat_of hx
    obtain ⟨y, rfl, gy⟩ := nat_of hy
    obtain ⟨n, rfl, gn⟩ := nat_of hn
    refine ⟨.dot k x y n, ⟨gk, gx, gy, gn⟩, rfl, fun s => step_of (t := [2, k, x, y, n]) ?_ rfl⟩
    intro v hv
    simp only [List.mem_cons, List.not_mem_nil, or_false] at hv
    rcases hv with hv | hv | hv | hv | hv <;> subst hv <;> first | assumption | (unfold M32; decide)
  · obtain ⟨e1, e2⟩ := Prod.mk.inj (Option.some.inj (show some (6, 0) = some (a.length, xs.length) from hsh))
    obtain ⟨k, x, y, u, v, n, rfl⟩ := il6 e1.symm
    obtain rfl := il0 e2.symm
    have hb : (PyInside.each [(0, 4294967295), (0, 4294967295), (0, 4294967295), (0, 4294967295), (0, 4294967295), (0, 4294967295)] [k, x, y, u, v, n] && PyInside.lists [] []) = true := hb
    simp only [PyInside.each, PyInside.lists, Bool.and_eq_true, decide_eq_true_eq, and_true, true_and, Bool.true_and, Bool.and_true] at hb
    obtain ⟨hk, hx, hy, hu, hv, hn⟩ := hb
    obtain ⟨k, rfl, gk⟩ := nat_of hk
    obtain ⟨x, rfl, gx⟩ := nat_of hx
    obtain ⟨y, rfl, gy⟩ := nat_of hy
    obtain ⟨u, rfl, gu⟩ := nat_of hu
    obtain ⟨v, rfl, gv⟩ := nat_of hv
    obtain ⟨n, rfl, gn⟩ := nat_of hn
    refine ⟨.box k x y u v n, ⟨gk, gx, gy, gu, gv, gn⟩, rfl, fun s => step_of (t := [3, k, x, y, u, v, n]) ?_ rfl⟩
    intro v hv
    simp only [List.mem_cons, List.not_mem_nil, or_false] at hv
    rcases hv with hv | hv | hv | hv | hv | hv | hv <;> subst hv <;> first | assumption | (unfold M32; decide)
  · obtain ⟨e1, e2⟩ := Prod.mk.inj (Option.some.inj (show some (1, 1) = some (a.length, xs.length) from hsh))
    obtain ⟨k, rfl⟩ := il1 e1.symm
    obtain ⟨r, rfl⟩ := il1 e2.symm
    have hb : (PyInside.each [(0, 4294967295)] [k] && PyInside.lists [(0, 4294967295, 0, 10)] [r]) = true := hb
    simp only [PyInside.each, PyInside.lists, Bool.and_eq_true, decide_eq_true_eq, and_true, true_and, Bool.true_and, Bool.and_true] at hb
    obtain ⟨hk, ⟨_, hl⟩, hr⟩ := hb
    obtain ⟨k, rfl, gk⟩ := nat_of hk
    obtain ⟨t, rfl, ht⟩ := nats_of hr
    have hl' : t.length ≤ 10 := by simpa [asI] using hl
    refine ⟨.effect k t, ⟨gk, hl', ht⟩, ?_, fun s => step_of (t := 4 :: k :: t) ?_ rfl⟩
    · show ((4 : Nat) : Int) :: (k : Int) :: (((asI t).length : Nat) : Int) :: (asI t ++ []) = _
      rw [List.append_nil, show (asI t).length = t.length from List.length_map ..]
      rfl
    · intro v hv
      simp only [List.mem_cons] at hv
      rcases hv with hv | hv | hv
      · subst hv; unfold M32; decide
      · subst hv; assumption
      · exact ht v hv
  · obtain ⟨e1, e2⟩ := Prod.mk.inj (Option.some.inj (show some (1, 0) = some (a.length, xs.length) from hsh))
    obtain ⟨k, rfl⟩ := il1 e1.symm
    obtain rfl := il0 e2.symm
    have hb : (PyInside.each [(0, 4294967295)] [k] && PyInside.lists [] []) = true := hb
    simp only [PyInside.each, PyInside.lists, Bool.and_eq_true, decide_eq_true_eq, and_true, true_and, Bool.true_and, Bool.and_true] at hb
    have hk := hb
    obtain ⟨k, rfl, gk⟩ := nat_of hk
    refine ⟨.cells k, gk, rfl, fun s => step_of (t := [5, k]) ?_ rfl⟩
    intro v hv
    simp only [List.mem_cons, List.not_mem_nil, or_false] at hv
    rcases hv with hv | hv <;> subst hv <;> first | assumption | (unfold M32; decide)
  · obtain ⟨e1, e2⟩ := Prod.mk.inj (Option.some.inj (show some (3, 0) = some (a.length, xs.length) from hsh))
    obtain ⟨k, x, y, rfl⟩ := il3 e1.symm
    obtain rfl := il0 e2.symm
    have hb : (PyInside.each [(0, 4294967295), (0, 4294967295), (0, 4294967295)] [k, x, y] && PyInside.lists [] []) = true := hb
    simp only [PyInside.each, PyInside.lists, Bool.and_eq_true, decide_eq_true_eq, and_true, true_and, Bool.true_and, Bool.and_true] at hb
    obtain ⟨hk, hx, hy⟩ := hb
    obtain ⟨k, rfl, gk⟩ := nat_of hk
    obtain ⟨x, rfl, gx⟩ := nat_of hx
    obtain ⟨y, rfl, gy⟩ := nat_of hy
    refine ⟨.cell k x y, ⟨gk, gx, gy⟩, rfl, fun s => step_of (t := [6, k, x, y]) ?_ rfl⟩
    intro v hv
    simp only [List.mem_cons, List.not_mem_nil, or_false] at hv
    rcases hv with hv | hv | hv | hv <;> subst hv <;> first | assumption | (unfold M32; decide)
  · obtain ⟨e1, e2⟩ := Prod.mk.inj (Option.some.inj (show some (1, 0) = some (a.length, xs.length) from hsh))
    obtain ⟨k, rfl⟩ := il1 e1.symm
    obtain rfl := il0 e2.symm
    have hb : (PyInside.each [(0, 4294967295)] [k] && PyInside.lists [] []) = true := hb
    simp only [PyInside.each, PyInside.lists, Bool.and_eq_true, decide_eq_true_eq, and_true, true_and, Bool.true_and, Bool.and_true] at hb
    have hk := hb
    obtain ⟨k, rfl, gk⟩ := nat_of hk
    refine ⟨.look k, gk, rfl, fun s => step_of (t := [7, k]) ?_ rfl⟩
    intro v hv
    simp only [List.mem_cons, List.not_mem_nil, or_false] at hv
    rcases hv with hv | hv <;> subst hv <;> first | assumption | (unfold M32; decide)
  · obtain ⟨e1, e2⟩ := Prod.mk.inj (Option.some.inj (show some (3, 0) = some (a.length, xs.length) from hsh))
    obtain ⟨k, x, y, rfl⟩ := il3 e1.symm
    obtain rfl := il0 e2.symm
    have hb : (PyInside.each [(0, 4294967295), (0, 4294967295), (0, 4294967295)] [k, x, y] && PyInside.lists [] []) = true := hb
    simp only [PyInside.each, PyInside.lists, Bool.and_eq_true, decide_eq_true_eq, and_true, true_and, Bool.true_and, Bool.and_true] at hb
    obtain ⟨hk, hx, hy⟩ := hb
    obtain ⟨k, rfl, gk⟩ := nat_of hk
    obtain ⟨x, rfl, gx⟩ := nat_of hx
    obtain ⟨y, rfl, gy⟩ := nat_of hy
    refine ⟨.needs k x y, ⟨gk, gx, gy⟩, rfl, fun s => step_of (t := [8, k, x, y]) ?_ rfl⟩
    intro v hv
    simp only [List.mem_cons, List.not_mem_nil, or_false] at hv
    rcases hv with hv | hv | hv | hv <;> subst hv <;> first | assumption | (unfold M32; decide)
  · obtain ⟨e1, e2⟩ := Prod.mk.inj (Option.some.inj (show some (0, 0) = some (a.length, xs.length) from hsh))
    obtain rfl := il0 e1.symm
    obtain rfl := il0 e2.symm
    have hb : (PyInside.each [] [] && PyInside.lists [] []) = true := hb
    exact ⟨.list, trivial, rfl, fun s => step_of (t := [9]) (by intro v hv; simp at hv; subst hv; decide) rfl⟩
theorem all_calls : ∀ (raw : List (List (List Int))), (∀ c ∈ raw, PyFlat.okCall PyIe14.shape c) → (∀ c ∈ raw, PyInside.call PyIe14.bound c = true) → ∃ ics : List Ie14.Call, ics.length = raw.length ∧ (∀ c ∈ ics, okC c) ∧ PyFlat.put raw = asI (ics.flatMap flat) ∧
    ∀ s, PyFlat.played (fun s c => Ie14Neutral.step s (c.headD [])) s (raw.map PyIe14.whole) = play s ics
  | [], _, _ => ⟨[], rfl, fun c hc => (by cases hc), rfl, fun s => rfl⟩
  | c :: raw, h1, h2 => by
    obtain ⟨ic, o1, o2, o3⟩ := one_call (h1 c (List.mem_cons_self ..)) (h2 c (List.mem_cons_self ..))
    obtain ⟨ics, p1, p2, p3, p4⟩ := all_calls raw (fun d hd => h1 d (List.mem_cons_of_mem _ hd)) (fun d hd => h2 d (List.mem_cons_of_mem _ hd))
    refine ⟨ic :: ics, by rw [List.length_cons, List.length_cons, p1], fun d hd => ?_, ?_, fun s => ?_⟩
    · rcases List.mem_cons.mp hd with z | z
      · rw [z]; exact o1
      · exact p2 d z
    · show PyFlat.put1 c ++ PyFlat.put raw = asI (flat ic ++ ics.flatMap flat)
      rw [o2, p3]
      exact (List.map_append ..).symm
    · show (Ie14Neutral.step s ((PyIe14.whole c).headD [])).2 :: PyFlat.played _ (Ie14Neutral.step s ((PyIe14.whole c).headD [])).1 (raw.map PyIe14.whole) = (Ie14.step s ic).2 :: play (Ie14.step s ic).1 ics
      rw [o3, p4]
/-- **what is asked**: a row of at most forty calls, written one behind another; what is due is their answers -/
theorem asked_calls {l : List Int} (h : PyIe14.answers_asked l = true) : ∃ ics : List Ie14.Call, ics.length ≤ 40 ∧ (∀ c ∈ ics, okC c) ∧ l = asI (ics.flatMap flat) ∧ PyIe14.answers l = PyFlat.told (play Ie14.init ics) ∧ (PyFlat.told (play Ie14.init ics)).length ≤ 10000000 := by
  unfold PyIe14.answers_asked at h
  cases e : PyFlat.calls PyIe14.shape l.length l with
  | none => rw [e] at h; cases h
  | some raw =>
    rw [e] at h
    simp only [Bool.and_eq_true] at h
    obtain ⟨⟨⟨⟨_, h40⟩, hin⟩, _⟩, hsh⟩ := h
    obtain ⟨e1, ok⟩ := PyFlat.put_calls _ _ _ e
    have hin' : ∀ c ∈ raw, PyInside.call PyIe14.bound c = true := fun c hc => by
      unfold PyInside.calls at hin
      exact List.all_eq_true.mp hin c hc
    obtain ⟨ics, p1, p2, p3, p4⟩ := all_calls raw ok hin'
    have h40' : raw.length ≤ 40 := by
      unfold PyFlat.atMost at h40
      exact of_decide_eq_true h40
    have ea : PyIe14.answers l = PyFlat.told (play Ie14.init ics) := by
      unfold PyIe14.answers PyIe14.calls
      rw [e]
      show PyFlat.told (PyFlat.played (fun s c => Ie14Neutral.step s (c.headD [])) Ie14Neutral.start (raw.map PyIe14.whole)) = _
      rw [p4]
      rfl
    refine ⟨ics, by omega, p2, by rw [← p3]; exact e1, ea, ?_⟩
    rw [← ea]
    unfold PyFlat.short at hsh
    exact of_decide_eq_true hsh
/-! ### one call more -/
def runS (s : Ie14.St) (l : List Ie14.Call) : Ie14.St := l.foldl (fun s c => (Ie14.step s c).1) s
theorem runS_snoc (s : Ie14.St) (l : List Ie14.Call) (c : Ie14.Call) : runS s (l ++ [c]) = (Ie14.step (runS s l) c).1 := by
  unfold runS
  rw [List.foldl_append]
  rfl
theorem play_snoc : ∀ (s : Ie14.St) (l : List Ie14.Call) (c : Ie14.Call), play s (l ++ [c]) = play s l ++ [(Ie14.step (runS s l) c).2]
  | _, [], _ => rfl
  | s, d :: l, c => by
    show (Ie14.step s d).2 :: play (Ie14.step s d).1 (l ++ [c]) = _
    rw [play_snoc]
    rfl
theorem told_snoc (xs : List (List Int)) (y : List Int) : PyFlat.told (xs ++ [y]) = PyFlat.told xs ++ ((y.length : Int) :: y) := by
  unfold PyFlat.told
  rw [List.flatMap_append]
  simp
theorem play_app : ∀ (s : Ie14.St) (l r : List Ie14.Call), play s (l ++ r) = play s l ++ play (runS s l) r
  | _, [], _ => rfl
  | s, d :: l, r => by
    show (Ie14.step s d).2 :: play (Ie14.step s d).1 (l ++ r) = _
    rw [play_app]
    rfl
theorem told_le (s : Ie14.St) (ics : List Ie14.Call) (i : Nat) : (PyFlat.told (play s (ics.take i))).length ≤ (PyFlat.told (play s ics)).length := by
  have e : play s ics = play s (ics.take i) ++ play (runS s (ics.take i)) (ics.drop i) := by rw [← play_app, List.take_append_drop]
  rw [e]
  unfold PyFlat.told
  rw [List.flatMap_append, List.length_append]
  omega
theorem flat_pos (c : Ie14.Call) : 0 < (flat c).length := by cases c <;> simp [flat]
end Kp
set_option Elab.async false
set_option linter.all false
set_option maxRecDepth 100000
set_option maxHeartbeats 2000000
namespace Kp
open PySem PySem.Spec PyProof.Rows L2
abbrev sAns : Stmt := top 57
def spEnd (K : PySem.W.Frag) : Sp := fun vs H Q _ => ∃ (a : Addr) (pre post : List Nat) (ic : Ie14.Call), vs = [.ref a, .int ((pre.length : Nat) : Int)] ∧ SqL K H a (lN (pre ++ flat ic ++ post)) ∧ okC ic ∧ Q (.int (((pre ++ flat ic).length : Nat) : Int)) H
def spACall (CP CS : Addr) : Sp := fun vs H Q _ => ∃ (p l c : Addr) (qs : List Lay) (s : Ie14.St) (ic : Ie14.Call), vs = [.ref p, .ref c] ∧ PgAt CP CS H p l qs s ∧ Wf s ∧ H c = some (.lst (lN (flat ic))) ∧ c ∉ foot p l qs ∧ okC ic ∧ Post CP CS H p l qs [] (Ie14.step s ic) Q
def spAns (K : PySem.W.Frag) : Sp := fun vs H Q _ => ∃ (a : Addr) (ics : List Ie14.Call), vs = [.ref a] ∧ SqL K H a (lN (ics.flatMap flat)) ∧ (∀ c ∈ ics, okC c) ∧ (PyFlat.told (play Ie14.init ics)).length ≤ 10000000 ∧
  ∀ (H' : Hp) (b : Addr), H' b = some (.lst ((PyFlat.told (play Ie14.init ics)).map V.int)) → Q (.ref b) H'
/-- all that stood ahead of the call stands, and is no part of the page -/
def Kept (H H' : Hp) (F : List Addr) : Prop := ∀ u o, H u = some o → H' u = some o ∧ u ∉ F
theorem runS_wf : ∀ (l : List Ie14.Call) (s : Ie14.St), Wf s → Wf (runS s l)
  | [], _, W => W
  | c :: l, s, W => runS_wf l _ (step_wf W c)
theorem cut_mid (pre x post : List Nat) : cutV (lN (pre ++ x ++ post)) (some ((pre.length : Nat) : Int)) (some (((pre ++ x).length : Nat) : Int)) = lN x := by
  unfold cutV
  rw [HT.sIx_nat, HT.sIx_nat, lN_length]
  have e1 : min pre.length (pre ++ x ++ post).length = pre.length := by simp
  have e2 : min (pre ++ x).length (pre ++ x ++ post).length = (pre ++ x).length := by simp
  rw [e1, e2]
  unfold lN
  rw [← List.map_drop, ← List.map_take]
  congr 1
  rw [List.append_assoc, List.drop_left, List.length_append, Nat.add_sub_cancel_left, List.take_left]
theorem PgAt.keepF {CP CS : Addr} {H H' : Hp} {p l : Addr} {qs : List Lay} {s : Ie14.St} (G : PgAt CP CS H p l qs s) (k : ∀ b o, H b = some o → b ∈ foot p l qs → H' b = some o) : PgAt CP CS H' p l qs s := by
  obtain ⟨⟨dx, h1⟩, h2, h3, h4, h5⟩ := G
  exact ⟨⟨dx, k _ _ h1 (List.mem_cons_self ..)⟩, k _ _ h2 (List.mem_cons_of_mem _ (List.mem_cons_self ..)), h3, fun j q x e1 e2 => (h4 j q x e1 e2).keep fun b o hb e => k b o e (mem_foot (List.mem_of_getElem? e1) hb), h5⟩
def muA (n : Nat) : L2.St → Hp → Nat := fun σ _ => match (σ[3]? : Option (Option V)) with
  | some (some (.int z)) => n - z.toNat
  | _ => 0
section
variable {P : Program} {w : World} {K : PySem.W.Frag} {mg : Str → Option Value} {base : Heap} {CP CS : Addr}
theorem scAns : FnScope ["calls", "page", "answered", "place", "behind", "answer"] ["calls"] (defScope sAns) := ⟨rfl, rfl, rfl, by decide +kernel, rfl, by decide +kernel, by decide +kernel⟩
theorem ok_ans {f : Addr} {fd : FuncData} {kA : Nat} (F : Fun K "answers" "answers" sAns f fd) (TC : TxC K mg CP CS) (TE : TxE K mg) (C0 : CalC P w K mg base CP 2 ["self", "wide", "high"] (spBegin CP)) (C1 : Cal P w K mg base "end_of_call" 1 ["calls", "place"] (spEnd K))
    (hkA : 3 ≤ kA) (C2 : Cal P w K mg base "answer_call" kA ["page", "call"] (spACall CP CS)) : FnOk P w K mg base CX0 (kA + 1) f fd ["calls"] (spAns K) := by
  refine F.ok scAns (fun vs H Q E h => ?_) (fun cdv A outer s H vs Q E hr h => ?_)
  · obtain ⟨a, ics, rfl, _⟩ := h
    rfl
  · obtain ⟨a, ics, rfl, ha, hok, hlen, kk⟩ := h
    have hr1 : Room 1 _ := hr.mono (by omega)
    have hr3 : Room 3 _ := hr.mono (by omega)
    refine ⟨_, pss_cons (ps_set (i := 1) scAns.nd rfl (Or.inl rfl) (pe_mk C0 hr3 rfl TC.gP (pa_cons pe_int (pa_cons pe_int pa_nil))))
      (pss_cons (ps_set (i := 2) scAns.nd rfl (Or.inl rfl) (pe_lst pa_nil))
      (pss_cons (ps_set (i := 3) scAns.nd rfl (Or.inl rfl) pe_int)
      (pss_cons (ps_while PassesOwn.never (pt_cmpR op_lt (pv 3) (pe_callB call_len_seq (by rfl) TE.len PySem.boot_len (pa_cons (pv 0) pa_nil)) (nomark _))
        (pss_cons (ps_set (i := 4) scAns.nd rfl (Or.inl rfl) (pe_cal C1 hr1 rfl (pa_cons (pv 0) (pa_cons (pv 3) pa_nil))))
        (pss_cons (ps_set (i := 5) scAns.nd rfl (Or.inl rfl) (pe_cal C2 hr rfl (pa_cons (pv 1) (pa_cons (pe_slice sl_list (pv 0) (po_some (pv 3)) (po_some (pv 4))) pa_nil))))
        (pss_cons (ps_expr (pe_bm PySem.F.plainAttrs_list PySem.F.slot_list_append PySem.F.type_list_append mt_append (pv 2) (pa_cons (pe_callB call_len_seq (by rfl) TE.len PySem.boot_len (pa_cons (pv 5) pa_nil)) pa_nil)))
        (pss_cons (ps_expr (pe_bm PySem.F.plainAttrs_list PySem.F.slot_list_extend PySem.F.type_list_extend mt_extend (pv 2) (pa_cons (pv 5) pa_nil)))
        (pss_one (ps_set (i := 3) scAns.nd rfl (Or.inl rfl) (pv 4))))))))
      (pss_one (ps_ret (pv 2)))))), ?_⟩
    have esz : sizeLine = 16777216 := sizeLine_eq
    -- page = Page(1, 1)
    intro p dx np ndx ndp
    refine ⟨p, dx, 1, 1, [], rfl, upd_same, .inl rfl, fun H1 l hp nl hl O1 => ⟨rfl, ?_⟩⟩
    have k1 : ∀ u o, H u = some o → H1 u = some o := fun u o e => O1 u o (by rw [upd_ne (ne_of_none e np), upd_ne (ne_of_none e ndx)]; exact e) fun z => ne_of_none e np (List.mem_singleton.mp z)
    have npl : p ≠ l := fun z => by rw [← z, upd_same] at nl; cases nl
    have hlH : H l = none := by
      cases q : H l with
      | none => rfl
      | some o =>
        rw [upd_ne (fun z => npl z.symm), upd_ne (ne_of_none q ndx), q] at nl
        cases nl
    have G1 : PgAt CP CS H1 p l [] Ie14.init := ⟨⟨dx, hp⟩, hl, rfl, fun k q x e _ => by simp at e, by unfold foot; simp [npl]⟩
    -- answered = []; place = 0
    refine ⟨Nat.zero_le _, fun z nz => ?_⟩
    have s2 : Same H1 (upd H1 z (.lst [])) := same_new nz
    refine while_by (fun σ H' => ∃ (i : Nat) (v4 v5 : Option V) (l : Addr) (qs : List Lay), i ≤ ics.length ∧ σ = [some (.ref a), some (.ref p), some (.ref z), some (.int ((((ics.take i).flatMap flat).length : Nat) : Int)), v4, v5] ∧ PgAt CP CS H' p l qs (runS Ie14.init (ics.take i)) ∧
        H' z = some (.lst ((PyFlat.told (play Ie14.init (ics.take i))).map V.int)) ∧ z ∉ foot p l qs ∧ Kept H H' (foot p l qs)) (muA (ics.flatMap flat).length) ?_ ?_ ?_
    · refine ⟨0, none, none, l, [], Nat.zero_le _, rfl, G1.same s2, upd_same, fun y => ?_, fun u o e => ⟨s2 _ _ (k1 u o e), fun y => ?_⟩⟩
      · obtain ⟨o, ho⟩ := G1.tracked y
        rw [nz] at ho
        cases ho
      · rcases List.mem_cons.mp y with y | y
        · exact ne_of_none e np y
        · rcases List.mem_cons.mp y with y | y
          · exact ne_of_none e hlH y
          · cases y
    · rintro σ H2 ⟨i, v4, v5, l, qs, hi, rfl, G2, hz, nzf, kp⟩
      have ha2 : SqL K H2 a (lN (ics.flatMap flat)) := Same.seq (fun u o e => (kp u o e).1) ha
      refine ⟨_, rfl, _, rfl, a, _, rfl, .inl ha2, _, _, rfl, rfl, _, rfl, ?_⟩
      rw [lN_length]
      by_cases c : i < ics.length
      · obtain ⟨ic, hic⟩ : ∃ ic, ics[i]? = some ic := ⟨_, List.getElem?_eq_getElem c⟩
        have esp : ics.flatMap flat = (ics.take i).flatMap flat ++ flat ic ++ (ics.drop (i + 1)).flatMap flat := by
          obtain ⟨lt, e⟩ := List.getElem?_eq_some_iff.mp hic
          have e9 : ics = ics.take i ++ ([ic] ++ ics.drop (i + 1)) := by
            rw [← e, List.singleton_append, ← List.drop_eq_getElem_cons lt, List.take_append_drop]
          conv => lhs; rw [e9]
          rw [List.flatMap_append, List.flatMap_append, List.append_assoc]
          simp
        have et : ics.take (i + 1) = ics.take i ++ [ic] := take_snoc hic
        have ef : (ics.take (i + 1)).flatMap flat = (ics.take i).flatMap flat ++ flat ic := by
          rw [et, List.flatMap_append]
          simp
        have fp := flat_pos ic
        have hlt : ((ics.take i).flatMap flat).length < (ics.flatMap flat).length := by
          rw [esp, List.length_append, List.length_append]
          omega
        have hoc := hok ic (List.mem_of_getElem? hic)
        refine if_true_of (by simp only [decide_eq_true_eq]; omega) ?_
        rw [esp] at ha2
        refine ⟨_, rfl, _, rfl, a, (ics.take i).flatMap flat, (ics.drop (i + 1)).flatMap flat, ic, rfl, ha2, hoc, ?_⟩
        refine ⟨_, rfl, _, rfl, _, rfl, _, rfl, _, rfl, _, rfl, a, _, rfl, ha2, fun c1 nc => ?_⟩
        rw [cut_mid]
        have s3 : Same H2 (upd H2 c1 (.lst (lN (flat ic)))) := same_new nc
        have W2 := runS_wf (ics.take i) _ init_wf
        refine ⟨p, l, c1, qs, _, ic, rfl, G2.same s3, W2, upd_same, fun y => ?_, hoc, fun H3 b l3 qs3 G3 hb nb nbf k3 => ?_⟩
        · obtain ⟨o, ho⟩ := G2.tracked y
          rw [nc] at ho
          cases ho
        · have hz2 := s3 _ _ hz
          obtain ⟨hz3, nzf3⟩ := k3 z _ hz2 nzf (fun y => nomatch y)
          have nzb : b ≠ z := fun y => by rw [y, hz2] at nb; cases nb
          have er : runS Ie14.init (ics.take (i + 1)) = (Ie14.step (runS Ie14.init (ics.take i)) ic).1 := by rw [et, runS_snoc]
          have ep : PyFlat.told (play Ie14.init (ics.take (i + 1))) = PyFlat.told (play Ie14.init (ics.take i)) ++ (((Ie14.step (runS Ie14.init (ics.take i)) ic).2.length : Int) :: (Ie14.step (runS Ie14.init (ics.take i)) ic).2) := by rw [et, play_snoc, told_snoc]
          have hl2 := told_le Ie14.init ics (i + 1)
          rw [ep, List.length_append, List.length_cons] at hl2
          refine ⟨_, rfl, .inl ⟨rfl, _, SqL.of hz3⟩, _, rfl, b, _, rfl, .inl (SqL.of hb), z, _, _, rfl, rfl, hz3, by rw [List.length_map, esz]; omega, ?_⟩
          refine ⟨_, rfl, .inl ⟨rfl, _, SqL.of upd_same⟩, _, rfl, z, b, _, _, rfl, rfl, upd_same, by rw [upd_ne nzb]; exact hb, by rw [List.length_append, List.length_map, List.length_map, esz]; show _ + 1 + _ ≤ _; omega, ?_⟩
          refine ⟨_, rfl, ⟨i + 1, some (.int ((((ics.take i).flatMap flat ++ flat ic).length : Nat) : Int)), some (.ref b), l3, qs3, by omega, ?_, ?_, ?_, nzf3, fun u o e => ?_⟩, ?_⟩
          · rw [ef]
            rfl
          · rw [er]
            refine G3.keepF fun u o e hu => ?_
            have : u ≠ z := fun y => nzf3 (by rw [← y]; exact hu)
            rw [upd_ne this, upd_ne this]
            exact e
          · rw [upd_same, ep, List.map_append, List.map_cons, List.length_map, List.append_assoc]
            rfl
          · obtain ⟨e1, n1⟩ := kp u o e
            obtain ⟨e2, n2⟩ := k3 u o (s3 _ _ e1) n1 (fun y => nomatch y)
            refine ⟨?_, n2⟩
            have : u ≠ z := fun y => by
              rw [y] at e
              have h9 := k1 z o e
              rw [nz] at h9
              cases h9
            rw [upd_ne this, upd_ne this]
            exact e2
          · show (ics.flatMap flat).length - _ < (ics.flatMap flat).length - _
            rw [Int.toNat_natCast, Int.toNat_natCast, List.length_append]
            omega
      · have ei : i = ics.length := by omega
        subst ei
        rw [List.take_length] at hz ⊢
        refine if_false_of (by simp) ?_
        exact ⟨_, rfl, kk _ z hz⟩
    · rintro σ H9 Q1 Q2 hq ⟨v, e1, u, e2, b, ys, e3, h4, i1, j1, e5, e6, b1, e7, h8⟩
      exact ⟨v, e1, u, e2, b, ys, e3, h4, i1, j1, e5, e6, b1, e7, hq _ _ h8⟩
end
end Kp
set_option Elab.async false
set_option linter.all false
set_option maxRecDepth 100000
set_option maxHeartbeats 2000000
namespace Kp
open PySem PySem.Spec PyProof.Rows L2
abbrev sEnd : Stmt := top 58
abbrev sACall : Stmt := top 59
abbrev sTell : Stmt := top 60
structure TxP (K : PySem.W.Frag) (mg : Str → Option Value) : Prop where
  page : GI mg "PAGE" 0
  sheet : GI mg "SHEET" 1
  dot : GI mg "DOT" 2
  box : GI mg "BOX" 3
  effect : GI mg "EFFECT" 4
  cells : GI mg "CELLS" 5
  cell : GI mg "CELL" 6
  look : GI mg "LOOK" 7
  needs : GI mg "NEEDS" 8
  lengths : GT K mg "LENGTHS_page" [3, 2, 5, 7, 3, 2, 4, 2, 4, 1]
  list : mg "list" = none
def numC : Ie14.Call → Nat
  | .page _ _ => 0
  | .sheet _ => 1
  | .dot _ _ _ _ => 2
  | .box _ _ _ _ _ _ => 3
  | .effect _ _ => 4
  | .cells _ => 5
  | .cell _ _ _ => 6
  | .look _ => 7
  | .needs _ _ _ => 8
  | .list => 9
theorem numC_lt (c : Ie14.Call) : numC c < 10 := by cases c <;> simp [numC]
theorem flat_num (c : Ie14.Call) : flat c = numC c :: (flat c).tail := by cases c <;> rfl
def lenP (k : Nat) : Nat := [3, 2, 5, 7, 3, 2, 4, 2, 4, 1].getD k 0
theorem lenP_get {k : Nat} (hk : k < 10) : (([3, 2, 5, 7, 3, 2, 4, 2, 4, 1] : List Int).map V.int)[k]? = some (.int ((lenP k : Nat) : Int)) := by
  have hc : k = 0 ∨ k = 1 ∨ k = 2 ∨ k = 3 ∨ k = 4 ∨ k = 5 ∨ k = 6 ∨ k = 7 ∨ k = 8 ∨ k = 9 := by omega
  rcases hc with rfl | rfl | rfl | rfl | rfl | rfl | rfl | rfl | rfl | rfl <;> rfl
theorem num1 {c : Ie14.Call} (h : numC c = 1) : ∃ t, c = .sheet t := by cases c <;> first | exact ⟨_, rfl⟩ | (simp [numC] at h)
theorem num4 {c : Ie14.Call} (h : numC c = 4) : ∃ k t, c = .effect k t := by cases c <;> first | exact ⟨_, _, rfl⟩ | (simp [numC] at h)
theorem flat_len {c : Ie14.Call} (h1 : numC c ≠ 1) (h4 : numC c ≠ 4) : (flat c).length = lenP (numC c) := by
  cases c <;> first | rfl | (exact absurd rfl h1) | (exact absurd rfl h4)
theorem mid_get2 (pre x post : List Nat) (i : Nat) (v : Nat) (h : x[i]? = some v) : (lN (pre ++ x ++ post))[pre.length + i]? = some (.int (v : Int)) := by
  have hi : i < x.length := (List.getElem?_eq_some_iff.mp h).1
  rw [lN_get, List.append_assoc, List.getElem?_append_right (by omega), Nat.add_sub_cancel_left, List.getElem?_append_left hi, h]
  rfl
theorem cut_from {j : Nat} {l : List Nat} (hj : j ≤ l.length) : cutV (lN l) (some (j : Int)) none = lN (l.drop j) := by
  unfold cutV
  rw [HT.sIx_nat, HT.sIx_none, lN_length, Nat.min_eq_left hj]
  unfold lN
  rw [← List.map_drop, ← List.map_take, List.take_of_length_le (by simp)]
theorem Post.new {CP CS : Addr} {H : Hp} {p l a : Addr} {qs : List Lay} {r : Ie14.St × List Int} {Q : VK} {o : HO} (k : Post CP CS H p l qs [] r Q) (na : H a = none) : Post CP CS (upd H a o) p l qs [a] r Q :=
  fun H' b l' qs' g hb nb nf kp => k H' b l' qs' g hb (Same.free (same_new na) nb) nf fun u o e hu _ => kp u o (same_new na _ _ e) hu fun z => by
    rw [List.mem_singleton.mp z, na] at e
    cases e
def spTell (CP CS : Addr) : Sp := fun vs H Q _ => ∃ (p l c : Addr) (qs : List Lay) (s : Ie14.St) (ic : Ie14.Call), vs = [.ref p, .ref c] ∧ PgAt CP CS H p l qs s ∧ Wf s ∧ H c = some (.lst (lN (flat ic))) ∧ 5 ≤ numC ic ∧ Post CP CS H p l qs [] (Ie14.step s ic) Q
section
variable {P : Program} {w : World} {K : PySem.W.Frag} {mg : Str → Option Value} {base : Heap} {CP CS : Addr}
theorem scEnd : FnScope ["calls", "place", "number", "behind"] ["calls", "place"] (defScope sEnd) := ⟨rfl, rfl, rfl, by decide +kernel, rfl, by decide +kernel, by decide +kernel⟩
theorem ok_end {f : Addr} {fd : FuncData} (F : Fun K "end_of_call" "end_of_call" sEnd f fd) (TE : TxE K mg) (TP : TxP K mg) : FnOk P w K mg base CX0 1 f fd ["calls", "place"] (spEnd K) := by
  obtain ⟨ta, T1, T2⟩ := TP.lengths.ex
  refine F.ok scEnd (fun vs H Q E h => ?_) (fun cdv A outer s H vs Q E hr h => ?_)
  · obtain ⟨a, pre, post, ic, rfl, _⟩ := h
    rfl
  · obtain ⟨a, pre, post, ic, rfl, hs, hok, k⟩ := h
    refine ⟨_, pss_cons (ps_set (i := 2) scEnd.nd rfl (Or.inl rfl) (pe_ix ix_list (pv 0) (pv 1) (fun _ _ => rfl)))
      (pss_cons (ps_if (pt_cmpR op_ge (pv 2) (pe_callB call_len_seq (by rfl) TE.len PySem.boot_len (pa_cons (pe_glob (v := .ref ta) rfl T1 rfl) pa_nil)) (nomark _)) (pss_one ps_never) pss_nil)
      (pss_cons (ps_set (i := 3) scEnd.nd rfl (Or.inl rfl) (pe_op op_add (pv 1) (pe_ix ix_tup (pe_glob (v := .ref ta) rfl T1 rfl) (pv 2) (fun _ _ => rfl))))
      (pss_cons (ps_if (PW.pt (pw_or (pt_cmpR op_eq (pv 2) (pe_gi TP.sheet rfl) (nomark _)) (pw_or1 (pt_cmpR op_eq (pv 2) (pe_gi TP.effect rfl) (nomark _))))) (pss_one (ps_ret (pe_op op_add (pv 3) (pe_ix ix_list (pv 0) (pe_op op_sub (pv 3) pe_int) (fun _ _ => rfl))))) pss_nil)
      (pss_one (ps_ret (pv 3)))))), ?_⟩
    have h0 : (lN (pre ++ flat ic ++ post))[pre.length]? = some (.int ((numC ic : Nat) : Int)) := mid_get2 pre (flat ic) post 0 _ (by rw [flat_num]; rfl)
    have hn := numC_lt ic
    refine ⟨_, rfl, _, rfl, a, _, _, _, rfl, rfl, hs, atI_nat (j := pre.length) h0, ?_⟩
    refine ⟨_, rfl, ta, _, rfl, .inr (T2 H), _, _, rfl, rfl, _, rfl, if_false_of (by simp; omega) ?_⟩
    refine ⟨_, rfl, _, rfl, ta, _, _, _, rfl, rfl, T2 H, atI_nat (j := numC ic) (lenP_get hn), _, _, rfl, rfl, ?_⟩
    refine ⟨_, rfl, rfl, _, rfl, ?_⟩
    by_cases c1 : numC ic = 1
    · obtain ⟨t, rfl⟩ := num1 c1
      refine if_true_of (by simp [c1]) (if_true_of rfl ?_)
      have hat : atI (lN (pre ++ flat (.sheet t) ++ post)) (((pre.length : Nat) : Int) + ((lenP (numC (.sheet t)) : Nat) : Int) - 1) = some (.int ((t.length : Nat) : Int)) := by
        have e : ((pre.length : Nat) : Int) + ((lenP (numC (.sheet t)) : Nat) : Int) - 1 = ((pre.length + 1 : Nat) : Int) := by
          show ((pre.length : Nat) : Int) + ((2 : Nat) : Int) - 1 = _
          omega
        rw [e]
        exact atI_nat (j := pre.length + 1) (mid_get2 pre (flat (.sheet t)) post 1 _ rfl)
      refine ⟨_, rfl, _, rfl, _, rfl, _, _, rfl, rfl, a, _, _, _, rfl, rfl, hs, hat, _, _, rfl, rfl, ?_⟩
      have e : ((pre.length : Nat) : Int) + ((lenP (numC (.sheet t)) : Nat) : Int) + ((t.length : Nat) : Int) = (((pre ++ flat (.sheet t)).length : Nat) : Int) := by
        show ((pre.length : Nat) : Int) + ((2 : Nat) : Int) + ((t.length : Nat) : Int) = _
        rw [List.length_append]
        show _ = ((pre.length + (t.length + 1 + 1) : Nat) : Int)
        omega
      show Q (.int (((pre.length : Nat) : Int) + ((lenP (numC (.sheet t)) : Nat) : Int) + ((t.length : Nat) : Int))) H
      rw [e]
      exact k
    · refine if_false_of (by simp; omega) ?_
      refine ⟨_, rfl, rfl, _, rfl, ?_⟩
      by_cases c4 : numC ic = 4
      · obtain ⟨kk, t, rfl⟩ := num4 c4
        refine if_true_of (by simp [c4]) ?_
        have hat : atI (lN (pre ++ flat (.effect kk t) ++ post)) (((pre.length : Nat) : Int) + ((lenP (numC (.effect kk t)) : Nat) : Int) - 1) = some (.int ((t.length : Nat) : Int)) := by
          have e : ((pre.length : Nat) : Int) + ((lenP (numC (.effect kk t)) : Nat) : Int) - 1 = ((pre.length + 2 : Nat) : Int) := by
            show ((pre.length : Nat) : Int) + ((3 : Nat) : Int) - 1 = _
            omega
          rw [e]
          exact atI_nat (j := pre.length + 2) (mid_get2 pre (flat (.effect kk t)) post 2 _ rfl)
        refine ⟨_, rfl, _, rfl, _, rfl, _, _, rfl, rfl, a, _, _, _, rfl, rfl, hs, hat, _, _, rfl, rfl, ?_⟩
        have e : ((pre.length : Nat) : Int) + ((lenP (numC (.effect kk t)) : Nat) : Int) + ((t.length : Nat) : Int) = (((pre ++ flat (.effect kk t)).length : Nat) : Int) := by
          show ((pre.length : Nat) : Int) + ((3 : Nat) : Int) + ((t.length : Nat) : Int) = _
          rw [List.length_append]
          show _ = ((pre.length + (t.length + 1 + 1 + 1) : Nat) : Int)
          omega
        show Q (.int (((pre.length : Nat) : Int) + ((lenP (numC (.effect kk t)) : Nat) : Int) + ((t.length : Nat) : Int))) H
        rw [e]
        exact k
      · refine if_false_of (by simp; omega) ?_
        refine ⟨_, rfl, ?_⟩
        have e : ((pre.length : Nat) : Int) + ((lenP (numC ic) : Nat) : Int) = (((pre ++ flat ic).length : Nat) : Int) := by
          rw [List.length_append, flat_len c1 c4]
          omega
        show Q (.int (((pre.length : Nat) : Int) + ((lenP (numC ic) : Nat) : Int))) H
        rw [e]
        exact k
theorem scTell : FnScope ["page", "call", "number"] ["page", "call"] (defScope sTell) := ⟨rfl, rfl, rfl, by decide +kernel, rfl, by decide +kernel, by decide +kernel⟩
theorem ok_tell {f : Addr} {fd : FuncData} (F : Fun K "answer_telling" "answer_telling" sTell f fd) (TP : TxP K mg) (C5 : Cal P w K mg base "answer_cells" 2 ["page", "k"] (spACells CP CS)) (C6 : Cal P w K mg base "answer_cell" 2 ["page", "k", "x", "y"] (spACell CP CS))
    (C7 : Cal P w K mg base "answer_look" 2 ["page", "k"] (spALook CP CS)) (C8 : Cal P w K mg base "answer_needs" 3 ["page", "k", "x", "y"] (spANeeds CP CS)) (C9 : Cal P w K mg base "answer_list" 2 ["page"] (spAList CP CS)) : FnOk P w K mg base CX0 4 f fd ["page", "call"] (spTell CP CS) := by
  refine F.ok scTell (fun vs H Q E h => ?_) (fun cdv A outer s H vs Q E hr h => ?_)
  · obtain ⟨p, l, c, qs, s, ic, rfl, _⟩ := h
    rfl
  · obtain ⟨p, l, c, qs, st, ic, rfl, G, W, hc, h5, kk⟩ := h
    have hr2 : Room 2 _ := hr.mono (by decide)
    refine ⟨_, pss_cons (ps_set (i := 2) scTell.nd rfl (Or.inl rfl) (pe_ix ix_list (pv 1) pe_int (fun _ _ => rfl)))
      (pss_cons (ps_if (pt_cmpR op_eq (pv 2) (pe_gi TP.cells rfl) (nomark _)) (pss_one (ps_ret (pe_cal C5 hr2 rfl (pa_cons (pv 0) (pa_cons (pe_ix ix_list (pv 1) pe_int (fun _ _ => rfl)) pa_nil))))) pss_nil)
      (pss_cons (ps_if (pt_cmpR op_eq (pv 2) (pe_gi TP.cell rfl) (nomark _)) (pss_one (ps_ret (pe_cal C6 hr2 rfl (pa_cons (pv 0) (pa_cons (pe_ix ix_list (pv 1) pe_int (fun _ _ => rfl)) (pa_cons (pe_ix ix_list (pv 1) pe_int (fun _ _ => rfl)) (pa_cons (pe_ix ix_list (pv 1) pe_int (fun _ _ => rfl)) pa_nil))))))) pss_nil)
      (pss_cons (ps_if (pt_cmpR op_eq (pv 2) (pe_gi TP.look rfl) (nomark _)) (pss_one (ps_ret (pe_cal C7 hr2 rfl (pa_cons (pv 0) (pa_cons (pe_ix ix_list (pv 1) pe_int (fun _ _ => rfl)) pa_nil))))) pss_nil)
      (pss_cons (ps_if (pt_cmpR op_eq (pv 2) (pe_gi TP.needs rfl) (nomark _)) (pss_one (ps_ret (pe_cal C8 hr rfl (pa_cons (pv 0) (pa_cons (pe_ix ix_list (pv 1) pe_int (fun _ _ => rfl)) (pa_cons (pe_ix ix_list (pv 1) pe_int (fun _ _ => rfl)) (pa_cons (pe_ix ix_list (pv 1) pe_int (fun _ _ => rfl)) pa_nil))))))) pss_nil)
      (pss_one (ps_ret (pe_cal C9 hr2 rfl (pa_cons (pv 0) pa_nil)))))))), ?_⟩
    have hc' := SqL.of (K := K) hc
    cases ic with
    | page _ _ => exact absurd h5 (by simp [numC])
    | sheet _ => exact absurd h5 (by simp [numC])
    | dot _ _ _ _ => exact absurd h5 (by simp [numC])
    | box _ _ _ _ _ _ => exact absurd h5 (by simp [numC])
    | effect _ _ => exact absurd h5 (by simp [numC])
    | cells k => exact ⟨_, rfl, c, _, _, _, rfl, rfl, hc', atI_nat (j := 0) rfl, _, rfl, rfl, _, rfl, if_true_of (by simp) ⟨_, rfl, _, rfl, c, _, _, _, rfl, rfl, hc', atI_nat (j := 1) rfl, p, l, qs, st, k, rfl, G, kk⟩⟩
    | cell k x y => exact ⟨_, rfl, c, _, _, _, rfl, rfl, hc', atI_nat (j := 0) rfl, _, rfl, rfl, _, rfl, if_false_of (by simp) ⟨_, rfl, rfl, _, rfl, if_true_of (by simp) ⟨_, rfl, _, rfl, c, _, _, _, rfl, rfl, hc', atI_nat (j := 1) rfl, _, rfl, c, _, _, _, rfl, rfl, hc', atI_nat (j := 2) rfl, _, rfl, c, _, _, _, rfl, rfl, hc', atI_nat (j := 3) rfl, p, l, qs, st, k, x, y, rfl, G, W, kk⟩⟩⟩
    | look k => exact ⟨_, rfl, c, _, _, _, rfl, rfl, hc', atI_nat (j := 0) rfl, _, rfl, rfl, _, rfl, if_false_of (by simp) ⟨_, rfl, rfl, _, rfl, if_false_of (by simp) ⟨_, rfl, rfl, _, rfl, if_true_of (by simp) ⟨_, rfl, _, rfl, c, _, _, _, rfl, rfl, hc', atI_nat (j := 1) rfl, p, l, qs, st, k, rfl, G, W, kk⟩⟩⟩⟩
    | needs k x y => exact ⟨_, rfl, c, _, _, _, rfl, rfl, hc', atI_nat (j := 0) rfl, _, rfl, rfl, _, rfl, if_false_of (by simp) ⟨_, rfl, rfl, _, rfl, if_false_of (by simp) ⟨_, rfl, rfl, _, rfl, if_false_of (by simp) ⟨_, rfl, rfl, _, rfl, if_true_of (by simp) ⟨_, rfl, _, rfl, c, _, _, _, rfl, rfl, hc', atI_nat (j := 1) rfl, _, rfl, c, _, _, _, rfl, rfl, hc', atI_nat (j := 2) rfl, _, rfl, c, _, _, _, rfl, rfl, hc', atI_nat (j := 3) rfl, p, l, qs, st, k, x, y, rfl, G, W, kk⟩⟩⟩⟩⟩
    | list  => exact ⟨_, rfl, c, _, _, _, rfl, rfl, hc', atI_nat (j := 0) rfl, _, rfl, rfl, _, rfl, if_false_of (by simp) ⟨_, rfl, rfl, _, rfl, if_false_of (by simp) ⟨_, rfl, rfl, _, rfl, if_false_of (by simp) ⟨_, rfl, rfl, _, rfl, if_false_of (by simp) ⟨_, rfl, p, l, qs, st, rfl, G, W, kk⟩⟩⟩⟩⟩
theorem scACall : FnScope ["page", "call", "number"] ["page", "call"] (defScope sACall) := ⟨rfl, rfl, rfl, by decide +kernel, rfl, by decide +kernel, by decide +kernel⟩
theorem ok_acall {f : Addr} {fd : FuncData} (F : Fun K "answer_call" "answer_call" sACall f fd) (TP : TxP K mg) (C0 : Cal P w K mg base "answer_page" 2 ["page", "w", "h"] (spAPage CP CS)) (C1 : Cal P w K mg base "answer_sheet" 6 ["page", "effect"] (spASheet CP CS))
    (C2 : Cal P w K mg base "answer_dot" 8 ["page", "k", "x", "y", "n"] (spADot CP CS)) (C3 : Cal P w K mg base "answer_box" 8 ["page", "k", "x", "y", "u", "v", "n"] (spABox CP CS)) (C4 : Cal P w K mg base "answer_effect" 7 ["page", "k", "effect"] (spAEff CP CS))
    (C5 : Cal P w K mg base "answer_telling" 4 ["page", "call"] (spTell CP CS)) : FnOk P w K mg base CX0 9 f fd ["page", "call"] (spACall CP CS) := by
  refine F.ok scACall (fun vs H Q E h => ?_) (fun cdv A outer s H vs Q E hr h => ?_)
  · obtain ⟨p, l, c, qs, s, ic, rfl, _⟩ := h
    rfl
  · obtain ⟨p, l, c, qs, st, ic, rfl, G, W, hc, ncf, hok, kk⟩ := h
    have hr2 : Room 2 _ := hr.mono (by decide)
    have hr4 : Room 4 _ := hr.mono (by decide)
    have hr6 : Room 6 _ := hr.mono (by decide)
    have hr7 : Room 7 _ := hr.mono (by decide)
    refine ⟨_, pss_cons (ps_set (i := 2) scACall.nd rfl (Or.inl rfl) (pe_ix ix_list (pv 1) pe_int (fun _ _ => rfl)))
      (pss_cons (ps_if (pt_cmpR op_eq (pv 2) (pe_gi TP.page rfl) (nomark _)) (pss_one (ps_ret (pe_cal C0 hr2 rfl (pa_cons (pv 0) (pa_cons (pe_ix ix_list (pv 1) pe_int (fun _ _ => rfl)) (pa_cons (pe_ix ix_list (pv 1) pe_int (fun _ _ => rfl)) pa_nil)))))) pss_nil)
      (pss_cons (ps_if (pt_cmpR op_eq (pv 2) (pe_gi TP.sheet rfl) (nomark _)) (pss_one (ps_ret (pe_cal C1 hr6 rfl (pa_cons (pv 0) (pa_cons (pe_slice sl_list (pv 1) (po_some pe_int) po_none) pa_nil))))) pss_nil)
      (pss_cons (ps_if (pt_cmpR op_eq (pv 2) (pe_gi TP.dot rfl) (nomark _)) (pss_one (ps_ret (pe_cal C2 hr rfl (pa_cons (pv 0) (pa_cons (pe_ix ix_list (pv 1) pe_int (fun _ _ => rfl)) (pa_cons (pe_ix ix_list (pv 1) pe_int (fun _ _ => rfl)) (pa_cons (pe_ix ix_list (pv 1) pe_int (fun _ _ => rfl)) (pa_cons (pe_ix ix_list (pv 1) pe_int (fun _ _ => rfl)) pa_nil)))))))) pss_nil)
      (pss_cons (ps_if (pt_cmpR op_eq (pv 2) (pe_gi TP.box rfl) (nomark _)) (pss_one (ps_ret (pe_cal C3 hr rfl (pa_cons (pv 0) (pa_cons (pe_ix ix_list (pv 1) pe_int (fun _ _ => rfl)) (pa_cons (pe_ix ix_list (pv 1) pe_int (fun _ _ => rfl)) (pa_cons (pe_ix ix_list (pv 1) pe_int (fun _ _ => rfl)) (pa_cons (pe_ix ix_list (pv 1) pe_int (fun _ _ => rfl)) (pa_cons (pe_ix ix_list (pv 1) pe_int (fun _ _ => rfl)) (pa_cons (pe_ix ix_list (pv 1) pe_int (fun _ _ => rfl)) pa_nil)))))))))) pss_nil)
      (pss_cons (ps_if (pt_cmpR op_eq (pv 2) (pe_gi TP.effect rfl) (nomark _)) (pss_one (ps_ret (pe_cal C4 hr7 rfl (pa_cons (pv 0) (pa_cons (pe_ix ix_list (pv 1) pe_int (fun _ _ => rfl)) (pa_cons (pe_slice sl_list (pv 1) (po_some pe_int) po_none) pa_nil)))))) pss_nil)
      (pss_one (ps_ret (pe_cal C5 hr4 rfl (pa_cons (pv 0) (pa_cons (pv 1) pa_nil)))))))))), ?_⟩
    have hc' := SqL.of (K := K) hc
    have naf : ∀ a, H a = none → a ∉ foot p l qs := fun a na z => by
      obtain ⟨o, ho⟩ := G.tracked z
      rw [na] at ho
      cases ho
    cases ic with
    | page w h => exact ⟨_, rfl, c, _, _, _, rfl, rfl, hc', atI_nat (j := 0) rfl, _, rfl, rfl, _, rfl, if_true_of (by simp) ⟨_, rfl, _, rfl, c, _, _, _, rfl, rfl, hc', atI_nat (j := 1) rfl, _, rfl, c, _, _, _, rfl, rfl, hc', atI_nat (j := 2) rfl, p, l, qs, st, w, h, rfl, G, kk⟩⟩
    | sheet t =>
      refine ⟨_, rfl, c, _, _, _, rfl, rfl, hc', atI_nat (j := 0) rfl, _, rfl, rfl, _, rfl, if_false_of (by simp) ⟨_, rfl, rfl, _, rfl, if_true_of (by simp) ⟨_, rfl, _, rfl, _, rfl, c, _, rfl, hc', fun a na => ?_⟩⟩⟩
      have e : cutV (lN (flat (.sheet t))) (some 2) none = lN t := cut_from (j := 2) (l := flat (.sheet t)) (by show 2 ≤ t.length + 1 + 1; omega)
      exact ⟨p, l, a, qs, st, t, rfl, G.same (same_new na), W, by rw [upd_same]; exact congrArg (fun q => some (HO.lst q)) e, Nat.le_trans hok.1 (by decide), naf a na, kk.new na⟩
    | dot k x y n => exact ⟨_, rfl, c, _, _, _, rfl, rfl, hc', atI_nat (j := 0) rfl, _, rfl, rfl, _, rfl, if_false_of (by simp) ⟨_, rfl, rfl, _, rfl, if_false_of (by simp) ⟨_, rfl, rfl, _, rfl, if_true_of (by simp) ⟨_, rfl, _, rfl, c, _, _, _, rfl, rfl, hc', atI_nat (j := 1) rfl, _, rfl, c, _, _, _, rfl, rfl, hc', atI_nat (j := 2) rfl, _, rfl, c, _, _, _, rfl, rfl, hc', atI_nat (j := 3) rfl, _, rfl, c, _, _, _, rfl, rfl, hc', atI_nat (j := 4) rfl, p, l, qs, st, k, x, y, n, rfl, G, W, hok.2.1, hok.2.2.1, kk⟩⟩⟩⟩
    | box k x y u v n => exact ⟨_, rfl, c, _, _, _, rfl, rfl, hc', atI_nat (j := 0) rfl, _, rfl, rfl, _, rfl, if_false_of (by simp) ⟨_, rfl, rfl, _, rfl, if_false_of (by simp) ⟨_, rfl, rfl, _, rfl, if_false_of (by simp) ⟨_, rfl, rfl, _, rfl, if_true_of (by simp) ⟨_, rfl, _, rfl, c, _, _, _, rfl, rfl, hc', atI_nat (j := 1) rfl, _, rfl, c, _, _, _, rfl, rfl, hc', atI_nat (j := 2) rfl, _, rfl, c, _, _, _, rfl, rfl, hc', atI_nat (j := 3) rfl, _, rfl, c, _, _, _, rfl, rfl, hc', atI_nat (j := 4) rfl, _, rfl, c, _, _, _, rfl, rfl, hc', atI_nat (j := 5) rfl, _, rfl, c, _, _, _, rfl, rfl, hc', atI_nat (j := 6) rfl, p, l, qs, st, k, x, y, u, v, n, rfl, G, W, hok.2.1, hok.2.2.1, hok.2.2.2.1, hok.2.2.2.2.1, kk⟩⟩⟩⟩⟩
    | effect k t =>
      refine ⟨_, rfl, c, _, _, _, rfl, rfl, hc', atI_nat (j := 0) rfl, _, rfl, rfl, _, rfl, if_false_of (by simp) ⟨_, rfl, rfl, _, rfl, if_false_of (by simp) ⟨_, rfl, rfl, _, rfl, if_false_of (by simp) ⟨_, rfl, rfl, _, rfl, if_false_of (by simp) ⟨_, rfl, rfl, _, rfl, if_true_of (by simp) ⟨_, rfl, _, rfl, c, _, _, _, rfl, rfl, hc', atI_nat (j := 1) rfl, _, rfl, _, rfl, c, _, rfl, hc', fun a na => ?_⟩⟩⟩⟩⟩⟩
      have e : cutV (lN (flat (.effect k t))) (some 3) none = lN t := cut_from (j := 3) (l := flat (.effect k t)) (by show 3 ≤ t.length + 1 + 1 + 1; omega)
      exact ⟨p, l, a, qs, st, k, t, rfl, G.same (same_new na), W, by rw [upd_same]; exact congrArg (fun q => some (HO.lst q)) e, Nat.le_trans hok.2.1 (by decide), naf a na, kk.new na⟩
    | cells k => exact ⟨_, rfl, c, _, _, _, rfl, rfl, hc', atI_nat (j := 0) rfl, _, rfl, rfl, _, rfl, if_false_of (by simp) ⟨_, rfl, rfl, _, rfl, if_false_of (by simp) ⟨_, rfl, rfl, _, rfl, if_false_of (by simp) ⟨_, rfl, rfl, _, rfl, if_false_of (by simp) ⟨_, rfl, rfl, _, rfl, if_false_of (by simp) ⟨_, rfl, _, rfl, p, l, c, qs, st, .cells k, rfl, G, W, hc, by simp [numC], kk⟩⟩⟩⟩⟩⟩
    | cell k x y => exact ⟨_, rfl, c, _, _, _, rfl, rfl, hc', atI_nat (j := 0) rfl, _, rfl, rfl, _, rfl, if_false_of (by simp) ⟨_, rfl, rfl, _, rfl, if_false_of (by simp) ⟨_, rfl, rfl, _, rfl, if_false_of (by simp) ⟨_, rfl, rfl, _, rfl, if_false_of (by simp) ⟨_, rfl, rfl, _, rfl, if_false_of (by simp) ⟨_, rfl, _, rfl, p, l, c, qs, st, .cell k x y, rfl, G, W, hc, by simp [numC], kk⟩⟩⟩⟩⟩⟩
    | look k => exact ⟨_, rfl, c, _, _, _, rfl, rfl, hc', atI_nat (j := 0) rfl, _, rfl, rfl, _, rfl, if_false_of (by simp) ⟨_, rfl, rfl, _, rfl, if_false_of (by simp) ⟨_, rfl, rfl, _, rfl, if_false_of (by simp) ⟨_, rfl, rfl, _, rfl, if_false_of (by simp) ⟨_, rfl, rfl, _, rfl, if_false_of (by simp) ⟨_, rfl, _, rfl, p, l, c, qs, st, .look k, rfl, G, W, hc, by simp [numC], kk⟩⟩⟩⟩⟩⟩
    | needs k x y => exact ⟨_, rfl, c, _, _, _, rfl, rfl, hc', atI_nat (j := 0) rfl, _, rfl, rfl, _, rfl, if_false_of (by simp) ⟨_, rfl, rfl, _, rfl, if_false_of (by simp) ⟨_, rfl, rfl, _, rfl, if_false_of (by simp) ⟨_, rfl, rfl, _, rfl, if_false_of (by simp) ⟨_, rfl, rfl, _, rfl, if_false_of (by simp) ⟨_, rfl, _, rfl, p, l, c, qs, st, .needs k x y, rfl, G, W, hc, by simp [numC], kk⟩⟩⟩⟩⟩⟩
    | list  => exact ⟨_, rfl, c, _, _, _, rfl, rfl, hc', atI_nat (j := 0) rfl, _, rfl, rfl, _, rfl, if_false_of (by simp) ⟨_, rfl, rfl, _, rfl, if_false_of (by simp) ⟨_, rfl, rfl, _, rfl, if_false_of (by simp) ⟨_, rfl, rfl, _, rfl, if_false_of (by simp) ⟨_, rfl, rfl, _, rfl, if_false_of (by simp) ⟨_, rfl, _, rfl, p, l, c, qs, st, .list , rfl, G, W, hc, by simp [numC], kk⟩⟩⟩⟩⟩⟩
end
end Kp
set_option Elab.async false
set_option linter.all false
set_option maxRecDepth 100000
set_option maxHeartbeats 2000000
namespace Kp
open PySem PySem.Spec PyProof.Rows L2
/-! ### what the top has written -/
structure DefIn (K : PySem.W.Frag) (mg : Str → Option Value) (x : Str) (st : Stmt) (ps : List Str) : Prop where
  ex : ∃ f fd, mg x = some (.ref f) ∧ Fun K x x st f fd ∧ Binds K fd ps []
structure MethIn (K : PySem.W.Frag) (C : Addr) (x qual : Str) (st : Stmt) (ps : List Str) : Prop where
  ex : ∃ f fd, PySem.W.findIn K (.ref C) x = some (some (.ref f)) ∧ PySem.W.isFn K (.ref f) = true ∧ Fun K x qual st f fd ∧ Binds K fd ps []
section
variable {K : PySem.W.Frag} {h : Heap} {mg : Str → Option Value}
theorem def_in {x : Str} {st : Stmt} {ps : List Str} {f : Addr} {oc : Value} {od an : Option Addr} {sl : Array (Option Value)} {kV doc pm cd ct : Value} (X : K.In h) (G : h.Ns mainGlobals mg)
    (hb : ∀ (kV doc pm : Value) (an : Option Addr) (cd ct : Value) (us : List Value), us.length = ps.length → bindArgs (PySem.W.fnOf x x (defArgs st) (defBody st) (defScope st) .none kV doc pm an cd ct) ⟨us, []⟩ = pure (ps.zip us))
    (a : PySem.W.nsIn K mainGlobals x = some (some (.ref f))) (l : K.lookup f = some ⟨oc, od, .func (PySem.W.fnOf x x (defArgs st) (defBody st) (defScope st) .none kV doc pm an cd ct), sl⟩)
    (c : PySem.W.codeIn K cd x = true) (k : PySem.W.keepIn K (.ref f) = true) : DefIn K mg x st ps :=
  ⟨f, _, PySem.W.mg_of X G a, fun_mk (st := st) l c k, Binds.all (hb _ _ _ _ _ _)⟩
theorem meth_in {C : Addr} {x qual : Str} {st : Stmt} {ps : List Str} {f : Addr} {oc : Value} {od an : Option Addr} {sl : Array (Option Value)} {kV doc pm cd ct : Value}
    (hb : ∀ (kV doc pm : Value) (an : Option Addr) (cd ct : Value) (us : List Value), us.length = ps.length → bindArgs (PySem.W.fnOf x qual (defArgs st) (defBody st) (defScope st) .none kV doc pm an cd ct) ⟨us, []⟩ = pure (ps.zip us))
    (a : PySem.W.findIn K (.ref C) x = some (some (.ref f))) (i : PySem.W.isFn K (.ref f) = true) (l : K.lookup f = some ⟨oc, od, .func (PySem.W.fnOf x qual (defArgs st) (defBody st) (defScope st) .none kV doc pm an cd ct), sl⟩)
    (c : PySem.W.codeIn K cd qual = true) (k : PySem.W.keepIn K (.ref f) = true) : MethIn K C x qual st ps :=
  ⟨f, _, a, i, fun_mk (st := st) l c k, Binds.all (hb _ _ _ _ _ _)⟩
theorem gi_in {x : Str} {i : Int} {t : Tok} (X : K.In h) (G : h.Ns mainGlobals mg) (a : PySem.W.nsIn K mainGlobals x = some (some (.int i t))) : GI mg x i := ⟨_, PySem.W.mg_of X G a, t, rfl⟩
theorem gt_in {x : Str} {ns : List Int} {a : Addr} {oc : Value} {od : Option Addr} {its : Array Value} {n : Nat} {sl : Array (Option Value)} (X : K.In h) (G : h.Ns mainGlobals mg) (a1 : PySem.W.nsIn K mainGlobals x = some (some (.ref a))) (l : K.lookup a = some ⟨oc, od, .seq its n, sl⟩) (hc : oc = .type "tuple") (hn : its.size ≤ sizeLine)
    (hv : Vals (ns.map V.int) its.toList) : GT K mg x ns := ⟨a, PySem.W.mg_of X G a1, fun H => .inr ⟨_, its, n, l, hc, rfl, hn, hv⟩⟩
variable {P : Program} {w : World} {base : Heap} {x qual : Str} {st : Stmt} {ps : List Str} {k : Nat} {sp : Sp} {C : Addr}
theorem DefIn.cal (D : DefIn K mg x st ps) (ok : ∀ {f : Addr} {fd : FuncData}, Fun K x x st f fd → FnOk P w K mg base CX0 k f fd ps sp) : Cal P w K mg base x k ps sp := by
  obtain ⟨f, fd, h1, h2, h3⟩ := D.ex
  exact ⟨f, fd, h1, ok h2, h3, h2.kp⟩
theorem MethIn.cal (D : MethIn K C x qual st ps) (ok : ∀ {f : Addr} {fd : FuncData}, Fun K x qual st f fd → FnOk P w K mg base CX0 k f fd ps sp) : CalM P w K mg base C x k ps sp := by
  obtain ⟨f, fd, h1, h2, h3, h4⟩ := D.ex
  exact ⟨f, fd, ⟨h1, h2, h3.kp⟩, ok h3, h4⟩
theorem MethIn.calC (D : MethIn K C "__init__" qual st ps) (mk : PySem.W.makesIn K C = true) (kc : PySem.W.keepIn K (.ref C) = true) (ok : ∀ {f : Addr} {fd : FuncData}, Fun K "__init__" qual st f fd → FnOk P w K mg base CX0 k f fd ps sp) : CalC P w K mg base C k ps sp := by
  obtain ⟨f, fd, h1, h2, h3, h4⟩ := D.ex
  exact ⟨f, fd, ⟨mk, h1, h2, kc⟩, ok h3, h4⟩
end
end Kp
set_option Elab.async false
set_option linter.all false
set_option maxRecDepth 100000
set_option maxHeartbeats 2000000
namespace Kp
open PySem PySem.Spec PyProof.Rows L2
/-- every def of the top, and the two classes -/
structure Top (K : PySem.W.Frag) (mg : Str → Option Value) (CP CS : Addr) : Prop where
  TE : TxE K mg
  TC : TxC K mg CP CS
  TK : TxK mg
  TP : TxP K mg
  told : DefIn K mg "sheets_told" sTold ["effect"]
  isE : DefIn K mg "is_effect" sIsE ["effect", "ahead"]
  around : DefIn K mg "cells_around" sAround ["cell", "wide", "high"]
  moved : DefIn K mg "moved_from" sMoved ["cell", "x", "y", "wide", "high"]
  needs : DefIn K mg "needed_cells" sNeeds ["effect", "cell", "wide", "high"]
  near : DefIn K mg "nearest" sNear ["above", "below"]
  made : DefIn K mg "number_made" sMade ["effect", "numbers"]
  mixed : DefIn K mg "number_mixed" sMixed ["kind", "numbers"]
  side : DefIn K mg "is_side" sSide ["length"]
  apage : DefIn K mg "answer_page" sAPage ["page", "w", "h"]
  asheet : DefIn K mg "answer_sheet" sASheet ["page", "effect"]
  adot : DefIn K mg "answer_dot" sADot ["page", "k", "x", "y", "n"]
  abox : DefIn K mg "answer_box" sABox ["page", "k", "x", "y", "u", "v", "n"]
  apaint : DefIn K mg "answer_paint" sAPaint ["page", "k", "cells", "n"]
  aeff : DefIn K mg "answer_effect" sAEff ["page", "k", "effect"]
  acells : DefIn K mg "answer_cells" sACells ["page", "k"]
  acell : DefIn K mg "answer_cell" sACell ["page", "k", "x", "y"]
  alook : DefIn K mg "answer_look" sALook ["page", "k"]
  aneeds : DefIn K mg "answer_needs" sANeeds ["page", "k", "x", "y"]
  alist : DefIn K mg "answer_list" sAList ["page"]
  ans : DefIn K mg "answers" sAns ["calls"]
  end_ : DefIn K mg "end_of_call" sEnd ["calls", "place"]
  acall : DefIn K mg "answer_call" sACall ["page", "call"]
  tell : DefIn K mg "answer_telling" sTell ["page", "call"]
  mkS : PySem.W.makesIn K CS = true
  kpS : PySem.W.keepIn K (.ref CS) = true
  mkP : PySem.W.makesIn K CP = true
  kpP : PySem.W.keepIn K (.ref CP) = true
  sinit : MethIn K CS "__init__" "Sheet.__init__" sSInit ["self", "effect", "numbers"]
  isP : MethIn K CS "is_painted" "Sheet.is_painted" sIsP ["self"]
  fresh : MethIn K CS "fresh_cells" "Sheet.fresh_cells" sFresh ["self"]
  seen : MethIn K CS "mark_seen" "Sheet.mark_seen" sSeen ["self"]
  pinit : MethIn K CP "__init__" "Page.__init__" sPInit ["self", "wide", "high"]
  begin_ : MethIn K CP "begin" "Page.begin" sBegin ["self", "wide", "high"]
  size : MethIn K CP "size" "Page.size" sSize ["self"]
  hasS : MethIn K CP "has_sheet" "Page.has_sheet" sHasS ["self", "k"]
  hasC : MethIn K CP "has_cell" "Page.has_cell" sHasC ["self", "x", "y"]
  cellAt : MethIn K CP "cell_at" "Page.cell_at" sCellAt ["self", "x", "y"]
  inBox : MethIn K CP "cells_in_box" "Page.cells_in_box" sInBox ["self", "x", "y", "u", "v"]
  add : MethIn K CP "add_sheet" "Page.add_sheet" sAdd ["self", "effect"]
  paint : MethIn K CP "paint" "Page.paint" sPaint ["self", "k", "cells", "n"]
  give : MethIn K CP "give_effect" "Page.give_effect" sGive ["self", "k", "effect"]
  goOn : MethIn K CP "go_on" "Page.go_on" sGoOn ["self", "k", "changed"]
  tch : MethIn K CP "is_touched" "Page.is_touched" sTch ["self", "effect", "cell", "changed"]
  numBy : MethIn K CP "number_by" "Page.number_by" sNumBy ["self", "effect", "cell"]
  put : MethIn K CP "put" "Page.put" sPut ["self", "k", "cell", "number", "changed"]
/-- all promises that answers leans on -/
structure Cals (P : Program) (w : World) (K : PySem.W.Frag) (mg : Str → Option Value) (base : Heap) (CP CS : Addr) : Prop where
  pinit : CalC P w K mg base CP 2 ["self", "wide", "high"] (spBegin CP)
  end_ : Cal P w K mg base "end_of_call" 1 ["calls", "place"] (spEnd K)
  acall : Cal P w K mg base "answer_call" 9 ["page", "call"] (spACall CP CS)
theorem cals_of {P : Program} {w : World} {K : PySem.W.Frag} {mg : Str → Option Value} {CP CS : Addr} (T : Top K mg CP CS) (base : Heap) : Cals P w K mg base CP CS := by
  have told := T.told.cal (P := P) (w := w) (base := base) fun F => ok_told F T.TE.told
  have isE := T.isE.cal (P := P) (w := w) (base := base) fun F => ok_isE F T.TE told
  have around := T.around.cal (P := P) (w := w) (base := base) fun F => ok_around F T.TE
  have moved := T.moved.cal (P := P) (w := w) (base := base) fun F => ok_moved F
  have needs := T.needs.cal (P := P) (w := w) (base := base) fun F => ok_needs F T.TE told around moved
  have near := T.near.cal (P := P) (w := w) (base := base) fun F => ok_near F
  have mixed := T.mixed.cal (P := P) (w := w) (base := base) fun F => ok_mixed F T.TE near
  have made := T.made.cal (P := P) (w := w) (base := base) fun F => ok_made F T.TE near mixed
  have sinit := T.sinit.calC (P := P) (w := w) (mg := mg) (base := base) T.mkS T.kpS fun F => ok_sinit F T.TC
  have isP := T.isP.cal (P := P) (w := w) (mg := mg) (base := base) fun F => ok_isP F T.TC T.TE
  have begin_ := T.begin_.cal (P := P) (w := w) (mg := mg) (base := base) fun F => ok_begin F T.TC
  have pinit := T.pinit.calC (P := P) (w := w) (mg := mg) (base := base) T.mkP T.kpP fun F => ok_pinit F T.TC begin_
  have size := T.size.cal (P := P) (w := w) (mg := mg) (base := base) fun F => ok_size F T.TC
  have hasS := T.hasS.cal (P := P) (w := w) (mg := mg) (base := base) fun F => ok_hasS F T.TC T.TE
  have hasC := T.hasC.cal (P := P) (w := w) (mg := mg) (base := base) fun F => ok_hasC F T.TC
  have cellAt := T.cellAt.cal (P := P) (w := w) (mg := mg) (base := base) fun F => ok_cellAt F T.TC
  have fresh := T.fresh.cal (P := P) (w := w) (mg := mg) (base := base) fun F => ok_fresh F T.TC T.TE
  have seen := T.seen.cal (P := P) (w := w) (mg := mg) (base := base) fun F => ok_seen F T.TC
  have inBox := T.inBox.cal (P := P) (w := w) (mg := mg) (base := base) fun F => ok_inBox F T.TC T.TE cellAt
  have tch := T.tch.cal (P := P) (w := w) (mg := mg) (base := base) fun F => ok_tch F T.TC needs
  have numBy := T.numBy.cal (P := P) (w := w) (mg := mg) (base := base) fun F => ok_numBy F T.TC needs made
  have put := T.put.cal (P := P) (w := w) (mg := mg) (base := base) fun F => ok_put F T.TC
  have goOn := T.goOn.cal (P := P) (w := w) (mg := mg) (base := base) fun F => ok_goOn F T.TC T.TE size tch numBy put
  have paint := T.paint.cal (P := P) (w := w) (mg := mg) (base := base) fun F => ok_paint F T.TC T.TE put goOn
  have give := T.give.cal (P := P) (w := w) (mg := mg) (base := base) fun F => ok_give F T.TC T.TE isP size numBy put goOn
  have add := T.add.cal (P := P) (w := w) (mg := mg) (base := base) fun F => ok_add F T.TC T.TE sinit size numBy
  have side := T.side.cal (P := P) (w := w) (base := base) fun F => ok_side F T.TK
  have apage := T.apage.cal (P := P) (w := w) (base := base) fun F => ok_apage F T.TC T.TK side begin_
  have asheet := T.asheet.cal (P := P) (w := w) (base := base) fun F => ok_asheet F T.TC T.TE T.TK isE add
  have apaint := T.apaint.cal (P := P) (w := w) (base := base) fun F => ok_apaint F T.TC T.TK hasS isP paint
  have adot := T.adot.cal (P := P) (w := w) (base := base) fun F => ok_adot F T.TC T.TE T.TK hasC inBox apaint
  have abox := T.abox.cal (P := P) (w := w) (base := base) fun F => ok_abox F T.TC T.TE T.TK inBox apaint
  have aeff := T.aeff.cal (P := P) (w := w) (base := base) fun F => ok_aeff F T.TC T.TK hasS isE give
  have acells := T.acells.cal (P := P) (w := w) (base := base) fun F => ok_acells F T.TC T.TK T.TP.list hasS
  have acell := T.acell.cal (P := P) (w := w) (base := base) fun F => ok_acell F T.TC T.TK hasS hasC cellAt
  have alook := T.alook.cal (P := P) (w := w) (base := base) fun F => ok_alook F T.TC T.TE T.TK hasS fresh seen
  have aneeds := T.aneeds.cal (P := P) (w := w) (base := base) fun F => ok_aneeds F T.TC T.TE T.TK hasS hasC cellAt needs
  have alist := T.alist.cal (P := P) (w := w) (base := base) fun F => ok_alist F T.TC T.TE told fresh
  have tell := T.tell.cal (P := P) (w := w) (base := base) fun F => ok_tell F T.TP acells acell alook aneeds alist
  have acall := T.acall.cal (P := P) (w := w) (base := base) fun F => ok_acall F T.TP apage asheet adot abox aeff tell
  have end_ := T.end_.cal (P := P) (w := w) (base := base) fun F => ok_end F T.TE T.TP
  exact ⟨pinit, end_, acall⟩
theorem all_mk {P : Program} {w : World} {K : PySem.W.Frag} {mg : Str → Option Value} {fa CP CS : Addr} (hfa : mg "answers" = some (.ref fa)) (T : Top K mg CP CS) :
    ∃ fd : FuncData, (∀ (s : Shared) (us : List Value), us.length = (["calls"] : List Str).length → BindsTo s fd ⟨us, []⟩ ((["calls"] : List Str).zip us)) ∧ ∀ base : Heap, K.In base → base.Ns mainGlobals mg → FnOk P w K mg base CX0 10 fa fd ["calls"] (spAns K) := by
  obtain ⟨f, fd, h1, h2, h3⟩ := T.ans.ex
  rw [hfa] at h1
  cases h1
  obtain ⟨oc, od, kV, doc, pm, an, cdv, ct, osl, e, lk, hcd⟩ := h2.ex
  refine ⟨fd, fun s us hu => ?_, fun base _ _ => ?_⟩
  · rw [e]
    match us, hu with
    | [_], _ => exact .of_eq rfl
  · have C := cals_of (P := P) (w := w) T base
    exact ok_ans h2 T.TC T.TE C.pinit C.end_ (by decide) C.acall
end Kp

open PySem PySem.W PyProof.Rows
set_option maxRecDepth 100000 in
set_option maxHeartbeats 0 in
theorem PySem.Challenge.cw_keptsheets_s01_answers_holds : PySem.Challenge.rw_keptsheets_s01_answers.Holds := by
  w_on; k_headS; (case hw => exact ⟨[.list [.int 9]], by decide +kernel, by decide +kernel⟩)
  k_fillS
  refine L2.walk_specK (r := PySem.Challenge.rw_keptsheets_s01_answers) (k := 10) (CX := L2.CX0) (ps := ["calls"]) (sp := Kp.spAns) (by decide +kernel) rfl rfl ⟨rfl, by decide, by decide⟩ (fun w h Y => PySem.W.kIn_of Y) ?F ?S (fun _ _ _ _ z => z)
  case F =>
    intro w mg fa h Y KX G hmg
    refine' Kp.all_mk hmg ⟨⟨Kp.gi_in KX G ?h1, Kp.gi_in KX G ?h2, Kp.gi_in KX G ?h3, Kp.gi_in KX G ?h4, Kp.gi_in KX G ?h5, Kp.gi_in KX G ?h6, Kp.gi_in KX G ?h7, Kp.gi_in KX G ?h8, Kp.gi_in KX G ?h9, Kp.gi_in KX G ?h10, Kp.gi_in KX G ?h11, Kp.gt_in KX G ?h12 ?h13 ?h14 ?h15 ?h16, Kp.gt_in KX G ?h17 ?h18 ?h19 ?h20 ?h21, PySem.W.mg_none_of KX G ?h22, PySem.W.mg_none_of KX G ?h23, PySem.W.mg_none_of KX G ?h24, PySem.W.mg_none_of KX G ?h25, PySem.W.mg_none_of KX G ?h26, PySem.W.mg_none_of KX G ?h27⟩, ⟨PySem.W.mg_of KX G ?h28, PySem.W.mg_of KX G ?h29, ⟨?h30, ?h31, ?h32, ?h33⟩, ⟨?h34, ?h35, ?h36, ?h37⟩, ?h38, ?h39, ?h40, ?h41, ?h42, ?h43⟩, ⟨Kp.gi_in KX G ?h44, Kp.gi_in KX G ?h45, Kp.gi_in KX G ?h46, Kp.gi_in KX G ?h47, Kp.gi_in KX G ?h48, Kp.gi_in KX G ?h49, Kp.gi_in KX G ?h50⟩, ⟨Kp.gi_in KX G ?h51, Kp.gi_in KX G ?h52, Kp.gi_in KX G ?h53, Kp.gi_in KX G ?h54, Kp.gi_in KX G ?h55, Kp.gi_in KX G ?h56, Kp.gi_in KX G ?h57, Kp.gi_in KX G ?h58, Kp.gi_in KX G ?h59, Kp.gt_in KX G ?h60 ?h61 ?h62 ?h63 ?h64, PySem.W.mg_none_of KX G ?h65⟩, Kp.def_in KX G (fun _ _ _ _ _ _ us hl => match us, hl with | [_], _ => rfl) ?h66 ?h67 ?h68 ?h69, Kp.def_in KX G (fun _ _ _ _ _ _ us hl => match us, hl with | [_, _], _ => rfl) ?h70 ?h71 ?h72 ?h73, Kp.def_in KX G (fun _ _ _ _ _ _ us hl => match us, hl with | [_, _, _], _ => rfl) ?h74 ?h75 ?h76 ?h77, Kp.def_in KX G (fun _ _ _ _ _ _ us hl => match us, hl with | [_, _, _, _, _], _ => rfl) ?h78 ?h79 ?h80 ?h81, Kp.def_in KX G (fun _ _ _ _ _ _ us hl => match us, hl with | [_, _, _, _], _ => rfl) ?h82 ?h83 ?h84 ?h85, Kp.def_in KX G (fun _ _ _ _ _ _ us hl => match us, hl with | [_, _], _ => rfl) ?h86 ?h87 ?h88 ?h89, Kp.def_in KX G (fun _ _ _ _ _ _ us hl => match us, hl with | [_, _], _ => rfl) ?h90 ?h91 ?h92 ?h93, Kp.def_in KX G (fun _ _ _ _ _ _ us hl => match us, hl with | [_, _], _ => rfl) ?h94 ?h95 ?h96 ?h97, Kp.def_in KX G (fun _ _ _ _ _ _ us hl => match us, hl with | [_], _ => rfl) ?h98 ?h99 ?h100 ?h101, Kp.def_in KX G (fun _ _ _ _ _ _ us hl => match us, hl with | [_, _, _], _ => rfl) ?h102 ?h103 ?h104 ?h105, Kp.def_in KX G (fun _ _ _ _ _ _ us hl => match us, hl with | [_, _], _ => rfl) ?h106 ?h107 ?h108 ?h109, Kp.def_in KX G (fun _ _ _ _ _ _ us hl => match us, hl with | [_, _, _, _, _], _ => rfl) ?h110 ?h111 ?h112 ?h113, Kp.def_in KX G (fun _ _ _ _ _ _ us hl => match us, hl with | [_, _, _, _, _, _, _], _ => rfl) ?h114 ?h115 ?h116 ?h117, Kp.def_in KX G (fun _ _ _ _ _ _ us hl => match us, hl with | [_, _, _, _], _ => rfl) ?h118 ?h119 ?h120 ?h121, Kp.def_in KX G (fun _ _ _ _ _ _ us hl => match us, hl with | [_, _, _], _ => rfl) ?h122 ?h123 ?h124 ?h125, Kp.def_in KX G (fun _ _ _ _ _ _ us hl => match us, hl with | [_, _], _ => rfl) ?h126 ?h127 ?h128 ?h129, Kp.def_in KX G (fun _ _ _ _ _ _ us hl => match us, hl with | [_, _, _, _], _ => rfl) ?h130 ?h131 ?h132 ?h133, Kp.def_in KX G (fun _ _ _ _ _ _ us hl => match us, hl with | [_, _], _ => rfl) ?h134 ?h135 ?h136 ?h137, Kp.def_in KX G (fun _ _ _ _ _ _ us hl => match us, hl with | [_, _, _, _], _ => rfl) ?h138 ?h139 ?h140 ?h141, Kp.def_in KX G (fun _ _ _ _ _ _ us hl => match us, hl with | [_], _ => rfl) ?h142 ?h143 ?h144 ?h145, Kp.def_in KX G (fun _ _ _ _ _ _ us hl => match us, hl with | [_], _ => rfl) ?h146 ?h147 ?h148 ?h149, Kp.def_in KX G (fun _ _ _ _ _ _ us hl => match us, hl with | [_, _], _ => rfl) ?h150 ?h151 ?h152 ?h153, Kp.def_in KX G (fun _ _ _ _ _ _ us hl => match us, hl with | [_, _], _ => rfl) ?h154 ?h155 ?h156 ?h157, Kp.def_in KX G (fun _ _ _ _ _ _ us hl => match us, hl with | [_, _], _ => rfl) ?h158 ?h159 ?h160 ?h161, ?h162, ?h163, ?h164, ?h165, Kp.meth_in (fun _ _ _ _ _ _ us hl => match us, hl with | [_, _, _], _ => rfl) ?h166 ?h167 ?h168 ?h169 ?h170, Kp.meth_in (fun _ _ _ _ _ _ us hl => match us, hl with | [_], _ => rfl) ?h171 ?h172 ?h173 ?h174 ?h175, Kp.meth_in (fun _ _ _ _ _ _ us hl => match us, hl with | [_], _ => rfl) ?h176 ?h177 ?h178 ?h179 ?h180, Kp.meth_in (fun _ _ _ _ _ _ us hl => match us, hl with | [_], _ => rfl) ?h181 ?h182 ?h183 ?h184 ?h185, Kp.meth_in (fun _ _ _ _ _ _ us hl => match us, hl with | [_, _, _], _ => rfl) ?h186 ?h187 ?h188 ?h189 ?h190, Kp.meth_in (fun _ _ _ _ _ _ us hl => match us, hl with | [_, _, _], _ => rfl) ?h191 ?h192 ?h193 ?h194 ?h195, Kp.meth_in (fun _ _ _ _ _ _ us hl => match us, hl with | [_], _ => rfl) ?h196 ?h197 ?h198 ?h199 ?h200, Kp.meth_in (fun _ _ _ _ _ _ us hl => match us, hl with | [_, _], _ => rfl) ?h201 ?h202 ?h203 ?h204 ?h205, Kp.meth_in (fun _ _ _ _ _ _ us hl => match us, hl with | [_, _, _], _ => rfl) ?h206 ?h207 ?h208 ?h209 ?h210, Kp.meth_in (fun _ _ _ _ _ _ us hl => match us, hl with | [_, _, _], _ => rfl) ?h211 ?h212 ?h213 ?h214 ?h215, Kp.meth_in (fun _ _ _ _ _ _ us hl => match us, hl with | [_, _, _, _, _], _ => rfl) ?h216 ?h217 ?h218 ?h219 ?h220, Kp.meth_in (fun _ _ _ _ _ _ us hl => match us, hl with | [_, _], _ => rfl) ?h221 ?h222 ?h223 ?h224 ?h225, Kp.meth_in (fun _ _ _ _ _ _ us hl => match us, hl with | [_, _, _, _], _ => rfl) ?h226 ?h227 ?h228 ?h229 ?h230, Kp.meth_in (fun _ _ _ _ _ _ us hl => match us, hl with | [_, _, _], _ => rfl) ?h231 ?h232 ?h233 ?h234 ?h235, Kp.meth_in (fun _ _ _ _ _ _ us hl => match us, hl with | [_, _, _], _ => rfl) ?h236 ?h237 ?h238 ?h239 ?h240, Kp.meth_in (fun _ _ _ _ _ _ us hl => match us, hl with | [_, _, _, _], _ => rfl) ?h241 ?h242 ?h243 ?h244 ?h245, Kp.meth_in (fun _ _ _ _ _ _ us hl => match us, hl with | [_, _, _], _ => rfl) ?h246 ?h247 ?h248 ?h249 ?h250, Kp.meth_in (fun _ _ _ _ _ _ us hl => match us, hl with | [_, _, _, _, _], _ => rfl) ?h251 ?h252 ?h253 ?h254 ?h255⟩
    (case h1 => k_is)
    (case h2 => k_is)
    (case h3 => k_is)
    (case h4 => k_is)
    (case h5 => k_is)
    (case h6 => k_is)
    (case h7 => k_is)
    (case h8 => k_is)
    (case h9 => k_is)
    (case h10 => k_is)
    (case h11 => k_is)
    (case h12 => k_is)
    (case h13 => k_is)
    (case h14 => first | rfl | decide)
    (case h15 => first | decide | decide +kernel)
    (case h16 => exact .cons ⟨_, rfl⟩ (.cons ⟨_, rfl⟩ (.cons ⟨_, rfl⟩ (.cons ⟨_, rfl⟩ (.cons ⟨_, rfl⟩ (.cons ⟨_, rfl⟩ (.cons ⟨_, rfl⟩ (.cons ⟨_, rfl⟩ (.cons ⟨_, rfl⟩ (.cons ⟨_, rfl⟩ (.nil)))))))))))
    (case h17 => k_is)
    (case h18 => k_is)
    (case h19 => first | rfl | decide)
    (case h20 => first | decide | decide +kernel)
    (case h21 => exact .cons ⟨_, rfl⟩ (.cons ⟨_, rfl⟩ (.cons ⟨_, rfl⟩ (.cons ⟨_, rfl⟩ (.cons ⟨_, rfl⟩ (.cons ⟨_, rfl⟩ (.cons ⟨_, rfl⟩ (.cons ⟨_, rfl⟩ (.cons ⟨_, rfl⟩ (.cons ⟨_, rfl⟩ (.nil)))))))))))
    (case h22 => k_is)
    (case h23 => k_is)
    (case h24 => k_is)
    (case h25 => k_is)
    (case h26 => k_is)
    (case h27 => k_is)
    (case h28 => k_is)
    (case h29 => k_is)
    (case h30 => k_is)
    (case h31 => k_is)
    (case h32 => k_is)
    (case h33 => k_is)
    (case h34 => k_is)
    (case h35 => k_is)
    (case h36 => k_is)
    (case h37 => k_is)
    (case h38 => unfold L2.NoAttr; k_is)
    (case h39 => unfold L2.NoAttr; k_is)
    (case h40 => unfold L2.NoAttr; k_is)
    (case h41 => unfold L2.NoAttr; k_is)
    (case h42 => unfold L2.NoAttr; k_is)
    (case h43 => unfold L2.NoAttr; k_is)
    (case h44 => k_is)
    (case h45 => k_is)
    (case h46 => k_is)
    (case h47 => k_is)
    (case h48 => k_is)
    (case h49 => k_is)
    (case h50 => k_is)
    (case h51 => k_is)
    (case h52 => k_is)
    (case h53 => k_is)
    (case h54 => k_is)
    (case h55 => k_is)
    (case h56 => k_is)
    (case h57 => k_is)
    (case h58 => k_is)
    (case h59 => k_is)
    (case h60 => k_is)
    (case h61 => k_is)
    (case h62 => first | rfl | decide)
    (case h63 => first | decide | decide +kernel)
    (case h64 => exact .cons ⟨_, rfl⟩ (.cons ⟨_, rfl⟩ (.cons ⟨_, rfl⟩ (.cons ⟨_, rfl⟩ (.cons ⟨_, rfl⟩ (.cons ⟨_, rfl⟩ (.cons ⟨_, rfl⟩ (.cons ⟨_, rfl⟩ (.cons ⟨_, rfl⟩ (.cons ⟨_, rfl⟩ (.nil)))))))))))
    (case h65 => k_is)
    (case h66 => k_is)
    (case h67 => k_is)
    (case h68 => k_is)
    (case h69 => k_is)
    (case h70 => k_is)
    (case h71 => k_is)
    (case h72 => k_is)
    (case h73 => k_is)
    (case h74 => k_is)
    (case h75 => k_is)
    (case h76 => k_is)
    (case h77 => k_is)
    (case h78 => k_is)
    (case h79 => k_is)
    (case h80 => k_is)
    (case h81 => k_is)
    (case h82 => k_is)
    (case h83 => k_is)
    (case h84 => k_is)
    (case h85 => k_is)
    (case h86 => k_is)
    (case h87 => k_is)
    (case h88 => k_is)
    (case h89 => k_is)
    (case h90 => k_is)
    (case h91 => k_is)
    (case h92 => k_is)
    (case h93 => k_is)
    (case h94 => k_is)
    (case h95 => k_is)
    (case h96 => k_is)
    (case h97 => k_is)
    (case h98 => k_is)
    (case h99 => k_is)
    (case h100 => k_is)
    (case h101 => k_is)
    (case h102 => k_is)
    (case h103 => k_is)
    (case h104 => k_is)
    (case h105 => k_is)
    (case h106 => k_is)
    (case h107 => k_is)
    (case h108 => k_is)
    (case h109 => k_is)
    (case h110 => k_is)
    (case h111 => k_is)
    (case h112 => k_is)
    (case h113 => k_is)
    (case h114 => k_is)
    (case h115 => k_is)
    (case h116 => k_is)
    (case h117 => k_is)
    (case h118 => k_is)
    (case h119 => k_is)
    (case h120 => k_is)
    (case h121 => k_is)
    (case h122 => k_is)
    (case h123 => k_is)
    (case h124 => k_is)
    (case h125 => k_is)
    (case h126 => k_is)
    (case h127 => k_is)
    (case h128 => k_is)
    (case h129 => k_is)
    (case h130 => k_is)
    (case h131 => k_is)
    (case h132 => k_is)
    (case h133 => k_is)
    (case h134 => k_is)
    (case h135 => k_is)
    (case h136 => k_is)
    (case h137 => k_is)
    (case h138 => k_is)
    (case h139 => k_is)
    (case h140 => k_is)
    (case h141 => k_is)
    (case h142 => k_is)
    (case h143 => k_is)
    (case h144 => k_is)
    (case h145 => k_is)
    (case h146 => k_is)
    (case h147 => k_is)
    (case h148 => k_is)
    (case h149 => k_is)
    (case h150 => k_is)
    (case h151 => k_is)
    (case h152 => k_is)
    (case h153 => k_is)
    (case h154 => k_is)
    (case h155 => k_is)
    (case h156 => k_is)
    (case h157 => k_is)
    (case h158 => k_is)
    (case h159 => k_is)
    (case h160 => k_is)
    (case h161 => k_is)
    (case h162 => k_is)
    (case h163 => k_is)
    (case h164 => k_is)
    (case h165 => k_is)
    (case h166 => k_is)
    (case h167 => k_is)
    (case h168 => k_is)
    (case h169 => k_is)
    (case h170 => k_is)
    (case h171 => k_is)
    (case h172 => k_is)
    (case h173 => k_is)
    (case h174 => k_is)
    (case h175 => k_is)
    (case h176 => k_is)
    (case h177 => k_is)
    (case h178 => k_is)
    (case h179 => k_is)
    (case h180 => k_is)
    (case h181 => k_is)
    (case h182 => k_is)
    (case h183 => k_is)
    (case h184 => k_is)
    (case h185 => k_is)
    (case h186 => k_is)
    (case h187 => k_is)
    (case h188 => k_is)
    (case h189 => k_is)
    (case h190 => k_is)
    (case h191 => k_is)
    (case h192 => k_is)
    (case h193 => k_is)
    (case h194 => k_is)
    (case h195 => k_is)
    (case h196 => k_is)
    (case h197 => k_is)
    (case h198 => k_is)
    (case h199 => k_is)
    (case h200 => k_is)
    (case h201 => k_is)
    (case h202 => k_is)
    (case h203 => k_is)
    (case h204 => k_is)
    (case h205 => k_is)
    (case h206 => k_is)
    (case h207 => k_is)
    (case h208 => k_is)
    (case h209 => k_is)
    (case h210 => k_is)
    (case h211 => k_is)
    (case h212 => k_is)
    (case h213 => k_is)
    (case h214 => k_is)
    (case h215 => k_is)
    (case h216 => k_is)
    (case h217 => k_is)
    (case h218 => k_is)
    (case h219 => k_is)
    (case h220 => k_is)
    (case h221 => k_is)
    (case h222 => k_is)
    (case h223 => k_is)
    (case h224 => k_is)
    (case h225 => k_is)
    (case h226 => k_is)
    (case h227 => k_is)
    (case h228 => k_is)
    (case h229 => k_is)
    (case h230 => k_is)
    (case h231 => k_is)
    (case h232 => k_is)
    (case h233 => k_is)
    (case h234 => k_is)
    (case h235 => k_is)
    (case h236 => k_is)
    (case h237 => k_is)
    (case h238 => k_is)
    (case h239 => k_is)
    (case h240 => k_is)
    (case h241 => k_is)
    (case h242 => k_is)
    (case h243 => k_is)
    (case h244 => k_is)
    (case h245 => k_is)
    (case h246 => k_is)
    (case h247 => k_is)
    (case h248 => k_is)
    (case h249 => k_is)
    (case h250 => k_is)
    (case h251 => k_is)
    (case h252 => k_is)
    (case h253 => k_is)
    (case h254 => k_is)
    (case h255 => k_is)
  case S =>
    intro K H xs a hO hwi hask hx
    cases hx with
    | cons h1 h2 =>
      cases h2
      cases h1 with
      | lst hs ha =>
        have e := L2.ints_dw a.1 _ ha
        subst e
        obtain ⟨ics, i1, i2, i3, i4, i5⟩ := Kp.asked_calls (l := a.1) hask
        refine ⟨_, ics, rfl, ?_, i2, i5, fun H' p hp => ?_⟩
        · rw [Kp.lN_int]
          rw [i3] at hs
          exact hs
        · rw [← i4] at hp
          exact .lst (L2.SqL.of hp) (L2.dw_ints _)
