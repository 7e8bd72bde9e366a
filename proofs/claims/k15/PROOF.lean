import PyProof.Rows.All
import Wide.All
import OpenK.AllK
import HandS.Text
import HandS.HeadHook4
import HandS.HeadWalk
import HandS.Head0
import HandS.Head1
import HandS.Head2
import KE.KStateDown
import Wide.FinOn
import HandS.Base
import HandS.Call
import HandS.List
import HandS.Comp
import HandS.Dict
import HandS.Iter
import HandS.Words
import HandS.WordsList
import HandS.WordsDict
import HandS.Exc
import HandS.ExcOwn
import HandS.TryOnly
import HandS.WordsExc
import HandS.Wide
import HandS.IsInst
import HandS.Flow
import HandS.TupAny
import HandS.DeepEq
import HandS.Deep
import HandS.More
import HandS.Lambda
import HandS.EndTab
import HandS.ExcIs
import HandS.ExcField
import HandS.SetFor
import PyProof.DictUpdate
import PyProof.CollectIter
import PyProof.Walks
import KE.KUnpack
import HandS.Star
import HandS.RaiseMore
import HandS.ExcInit
import HandS.Defaults
import KE.KTypeName
import KE.SortKeyHeap
import KE.SortData
import HandS.ExcValue
import HandS.SortKw
import HandS.SetBool
import HandS.DictComp
import HandS.Strs
import HandS.SortInts
import HandS.SortOrd
import PyProof.SetRoads
import KE.KDictZip
import KE.KDictItemsList
import KE.GoesEnum
import KE.GoesMore
import HandS.Style
import PyProof.Rows.SetFrom
import PyProof.AutoSeq1
import KE.DataFind
import HandS.Conv
import KE.GoesRaise
import HandS.ClsMeth
import HandS.FStr
import PySem.Challenge.RW_volumehall_k15_texts_of_no_steps
import KE.KLam
import KE.KNestM
set_option Elab.async false
set_option linter.all false
set_option maxRecDepth 100000
set_option maxHeartbeats 4000000
namespace Zw
open PySem PySem.Spec PyProof.Rows L2 TL
abbrev Stp := Str × List Nat
/-- a number as a text -/
def numS (n : Nat) : Str := Str.ofString (toString ((n : Nat) : Int))
theorem tl_numS (n : Nat) : tl (numS n) = numL n := tl_num n
theorem head_num (n : Nat) (h : 0 < n) : ∃ c r, numL n = c :: r ∧ c ≠ 48 := by
  induction n using Nat.strongRecOn with
  | _ n ih =>
    by_cases hn : n < 10
    · exact ⟨48 + n, [], numL_lt hn, by omega⟩
    · obtain ⟨c, r, e, hc⟩ := ih (n / 10) (by omega) (by omega)
      exact ⟨c, r ++ [48 + n % 10], by rw [numL_step (by omega), e]; rfl, hc⟩
theorem numS_len {n : Nat} (h : n < 10000) : 1 ≤ (numS n).length ∧ (numS n).length ≤ 4 := by
  rw [len_tl, tl_numS]
  refine ⟨?_, numL_len (by decide) h⟩
  have := numL_ne n
  cases e : numL n with
  | nil => exact absurd e this
  | cons _ _ => simp
def figures : Str := "0123456789"
theorem fig_mem {c : Nat} (h : 48 ≤ c ∧ c ≤ 57) : c ∈ tl figures := by
  have : tl figures = [48, 49, 50, 51, 52, 53, 54, 55, 56, 57] := by decide +kernel
  rw [this]
  simp
  omega
theorem num_fig {n c : Nat} (h : c ∈ numL n) : c ∈ tl figures := fig_mem (by
  have := numL_digits n c h
  omega)
theorem num_int {n : Nat} (h : n < 10000) : intText? (numS n) = some (n : Int) := int_num (by
  have := numL_len (n := n) (k := 4) (by decide) h
  omega)
/-- the first sign is no needless 0 -/
theorem num_head {n : Nat} : numS n = "0" ∨ ∃ c r, tl (numS n) = c :: r ∧ c ≠ 48 := by
  by_cases h : n = 0
  · subst h
    exact .inl (by decide +kernel)
  · obtain ⟨c, r, e, hc⟩ := head_num n (by omega)
    exact .inr ⟨c, r, by rw [tl_numS]; exact e, hc⟩
def rowS (s : Stp) : Str := Txt.join " " (s.1 :: s.2.map numS)
theorem tl_sp : tl " " = [32] := by decide +kernel
theorem tl_nl : tl "\n" = [10] := by decide +kernel
theorem tl_row (s : Stp) : tl (rowS s) = joinL [32] (tl s.1 :: (s.2.map numS).map tl) := by
  unfold rowS
  rw [join_eq, tl_join, tl_sp] <;> rfl
def words : List (Str × Nat) := [("make", 3), ("grow", 2), ("drop", 1), ("mirror", 2), ("leave", 1), ("stay", 1), ("read", 2), ("write", 3), ("step", 0), ("room", 1), ("lacks", 0), ("lost", 0), ("volumes", 0), ("places", 1), ("copying", 0), ("lose", 1), ("bring", 2), ("arm", 1), ("again", 0)]
structure Good (s : Stp) : Prop where
  w : (s.1, s.2.length) ∈ words
  n : ∀ n ∈ s.2, n < 10000
theorem words_free : ∀ p ∈ words, 32 ∉ tl p.1 ∧ 10 ∉ tl p.1 ∧ 1 ≤ (tl p.1).length ∧ (tl p.1).length ≤ 7 ∧ p.2 ≤ 3 := by decide +kernel
theorem joinL_mem {S : List Nat} {c : Nat} : ∀ {ps : List (List Nat)}, c ∈ joinL S ps → c ∈ S ∨ ∃ p ∈ ps, c ∈ p
  | [], h => by cases h
  | [p], h => .inr ⟨p, List.mem_singleton.mpr rfl, h⟩
  | p :: q :: r, h => by
    rcases List.mem_append.mp h with h | h
    · exact .inr ⟨p, List.mem_cons_self, h⟩
    · rcases List.mem_append.mp h with h | h
      · exact .inl h
      · rcases joinL_mem h with h | ⟨z, hz, h⟩
        · exact .inl h
        · exact .inr ⟨z, List.mem_cons_of_mem _ hz, h⟩
theorem joinL_len {S : List Nat} : ∀ {ps : List (List Nat)}, (joinL S ps).length ≤ (ps.map (·.length)).sum + ps.length * S.length
  | [] => by simp [joinL]
  | [p] => by simp [joinL]
  | p :: q :: r => by
    have := joinL_len (S := S) (ps := q :: r)
    simp only [joinL, List.length_append, List.map_cons, List.sum_cons, List.length_cons] at this ⊢
    rw [Nat.add_mul, Nat.add_mul] at *
    omega
theorem sum_le {ls : List Nat} {b : Nat} (h : ∀ x ∈ ls, x ≤ b) : ls.sum ≤ ls.length * b := by
  induction ls with
  | nil => simp
  | cons x r ih =>
    have h1 := h x List.mem_cons_self
    have h2 := ih fun y hy => h y (List.mem_cons_of_mem _ hy)
    simp only [List.sum_cons, List.length_cons, Nat.add_mul]
    omega
theorem Good.parts {s : Stp} (g : Good s) : ∀ p ∈ s.1 :: s.2.map numS, 32 ∉ tl p := by
  intro p hp
  rcases List.mem_cons.mp hp with rfl | hp
  · exact (words_free _ g.w).1
  · obtain ⟨n, hn, rfl⟩ := List.mem_map.mp hp
    rw [tl_numS]
    exact numL_free (.inl (by decide))
theorem Good.split {s : Stp} (g : Good s) : Txt.split (rowS s) " " = s.1 :: s.2.map numS := split_join tl_sp (by decide +kernel) (by simp) g.parts
theorem Good.few {s : Stp} (g : Good s) : s.2.length ≤ 3 := (words_free _ g.w).2.2.2.2
theorem Good.parts_len {s : Stp} (g : Good s) : ∀ p ∈ s.1 :: s.2.map numS, p.length ≤ 7 := by
  intro p hp
  rcases List.mem_cons.mp hp with rfl | hp
  · rw [len_tl]; exact (words_free _ g.w).2.2.2.1
  · obtain ⟨n, hn, rfl⟩ := List.mem_map.mp hp
    have := numS_len (g.n n hn)
    omega
theorem map_len {ls : List Str} : (ls.map tl).map (·.length) = ls.map (·.length) := by
  rw [List.map_map]
  exact List.map_congr_left fun x _ => (len_tl x).symm
theorem Good.row_len {s : Stp} (g : Good s) : (rowS s).length ≤ 32 := by
  rw [len_tl, tl_row]
  have h1 := joinL_len (S := [32]) (ps := tl s.1 :: (s.2.map numS).map tl)
  have h2 : ((tl s.1 :: (s.2.map numS).map tl).map (·.length)).sum ≤ 4 * 7 := by
    have e : (tl s.1 :: (s.2.map numS).map tl) = (s.1 :: s.2.map numS).map tl := rfl
    rw [e, map_len]
    refine Nat.le_trans (sum_le (b := 7) fun x hx => ?_) ?_
    · obtain ⟨p, hp, rfl⟩ := List.mem_map.mp hx
      exact g.parts_len p hp
    · simp only [List.length_map, List.length_cons]
      have := g.few
      exact Nat.mul_le_mul_right 7 (by omega)
  have h3 : (tl s.1 :: (s.2.map numS).map tl).length ≤ 4 := by
    simp only [List.length_map, List.length_cons]
    have := g.few
    omega
  simp only [List.length_cons, List.length_nil] at h1 h3 ⊢
  omega
theorem tl_figs : tl figures = [48, 49, 50, 51, 52, 53, 54, 55, 56, 57] := by decide +kernel
theorem mem_fig {c : Nat} (h : c ∈ tl figures) : 48 ≤ c ∧ c ≤ 57 := by
  rw [tl_figs] at h
  simp at h
  omega
theorem digits_of {l : List Nat} (h : ∀ c ∈ l, c ∈ tl figures) : NumText.AllDigits l := fun c hc => mem_fig (h c hc)
theorem val_snoc (l : List Nat) (c : Nat) : NumText.digitsVal (l ++ [c]) = NumText.digitsVal l * 10 + (c - 48) := by
  unfold NumText.digitsVal
  rw [List.foldl_append]
  rfl
theorem val_lt : ∀ (n : Nat) (l : List Nat), l.length = n → NumText.AllDigits l → NumText.digitsVal l < 10 ^ n
  | 0, l, h, _ => by
    rw [List.length_eq_zero_iff.mp h]
    decide
  | n + 1, l, h, hd => by
    have hne : l ≠ [] := fun e => by rw [e] at h; cases h
    have e := List.dropLast_concat_getLast hne
    have d1 : NumText.AllDigits l.dropLast := fun c hc => hd c ((List.dropLast_subset l) hc)
    have i1 := val_lt n l.dropLast (by rw [List.length_dropLast, h]; rfl) d1
    have d2 := hd _ (List.getLast_mem hne)
    rw [← e, val_snoc, Nat.pow_succ]
    omega
/-- a text of figures without a needless 0 is the text of its number -/
theorem num_val : ∀ (n : Nat) (l : List Nat), l.length = n → NumText.AllDigits l → (l = [48] ∨ ∃ c r, l = c :: r ∧ c ≠ 48) → numL (NumText.digitsVal l) = l
  | 0, l, h, _, h0 => by
    rw [List.length_eq_zero_iff.mp h] at h0
    rcases h0 with h0 | ⟨_, _, h0, _⟩ <;> cases h0
  | n + 1, l, h, hd, h0 => by
    have hne : l ≠ [] := fun e => by rw [e] at h; cases h
    have e := List.dropLast_concat_getLast hne
    have d1 : NumText.AllDigits l.dropLast := fun c hc => hd c ((List.dropLast_subset l) hc)
    have d2 := hd _ (List.getLast_mem hne)
    obtain ⟨z, ez⟩ : ∃ z, l.getLast hne = z := ⟨_, rfl⟩
    obtain ⟨p, ep⟩ : ∃ p, l.dropLast = p := ⟨_, rfl⟩
    rw [ez] at e d2
    rw [ep] at e d1
    rw [← e, val_snoc]
    cases p with
    | nil =>
      rw [show NumText.digitsVal [] = 0 from rfl, Nat.zero_mul, Nat.zero_add, numL_lt (by omega)]
      show [48 + (z - 48)] = [z]
      congr 1
      omega
    | cons a r =>
      have ha : a ≠ 48 := by
        rcases h0 with h0 | ⟨c, r', h0, hc⟩
        · rw [← e] at h0
          cases r <;> cases h0
        · rw [← e] at h0
          have := (List.cons.inj h0).1
          rw [this]
          exact hc
      have ih := num_val n (a :: r) (by rw [← e] at h; simp at h ⊢; omega) d1 (.inr ⟨a, r, rfl, ha⟩)
      have hv : 1 ≤ NumText.digitsVal (a :: r) := by
        by_cases hz : NumText.digitsVal (a :: r) = 0
        · rw [hz, numL_lt (by decide)] at ih
          have := (List.cons.inj ih).1
          omega
        · omega
      rw [numL_step (by omega), show (NumText.digitsVal (a :: r) * 10 + (z - 48)) / 10 = NumText.digitsVal (a :: r) from by omega, show (NumText.digitsVal (a :: r) * 10 + (z - 48)) % 10 = z - 48 from by omega, ih]
      congr 2
      omega
/-- a number as the rows write it -/
def IsNum (t : Str) : Prop := ∃ n, n < 10000 ∧ t = numS n
theorem zero_tl : tl ("0" : Str) = [48] := by decide +kernel
/-- the program's test of a text of figures -/
theorem fig_iff (t : Str) : (1 ≤ t.length ∧ t.length ≤ 4) ∧ (∀ c ∈ tl t, c ∈ tl figures) ∧ (t = "0" ∨ ∃ c r, tl t = c :: r ∧ c ≠ 48) ↔ IsNum t := by
  constructor
  · rintro ⟨⟨h1, h2⟩, h3, h4⟩
    have hd := digits_of h3
    have e := num_val _ (tl t) rfl hd (by
      rcases h4 with rfl | h4
      · exact .inl zero_tl
      · exact .inr h4)
    have lt := val_lt _ (tl t) rfl hd
    rw [← len_tl] at lt
    refine ⟨NumText.digitsVal (tl t), Nat.lt_of_lt_of_le lt (Nat.pow_le_pow_right (by decide) h2), ext_tl ?_⟩
    rw [tl_numS]
    exact e.symm
  · rintro ⟨n, hn, rfl⟩
    refine ⟨numS_len hn, fun c hc => ?_, ?_⟩
    · rw [tl_numS] at hc
      exact num_fig hc
    · exact num_head
/-- the law's test: the text of its value -/
theorem law_fig {t : Str} (h1 : 1 ≤ t.length) (h2 : t.length ≤ 4) (h3 : ∀ c ∈ tl t, c ∈ tl figures) : ∃ m : Nat, intText? t = some (m : Int) ∧ m < 10000 ∧ (numS m = t ↔ IsNum t) := by
  have hd := digits_of h3
  have hne : tl t ≠ [] := fun e => by rw [len_tl, e] at h1; exact absurd h1 (by decide)
  have lt := val_lt _ (tl t) rfl hd
  rw [← len_tl] at lt
  have hi := intText_digits (x := t) hd hne (by omega)
  have hm : NumText.digitsVal (tl t) < 10000 := Nat.lt_of_lt_of_le lt (Nat.pow_le_pow_right (by decide) h2)
  refine ⟨NumText.digitsVal (tl t), hi, hm, fun e => ⟨_, hm, e.symm⟩, ?_⟩
  rintro ⟨n, hn, rfl⟩
  refine ext_tl ?_
  rw [tl_numS, tl_numS, numL_val]
theorem numS_inj {m n : Nat} (h : numS m = numS n) : m = n := by
  have e := congrArg tl h
  rw [tl_numS, tl_numS] at e
  exact numL_inj e
theorem map_numS_inj : ∀ {a b : List Nat}, a.map numS = b.map numS → a = b
  | [], [], _ => rfl
  | [], _ :: _, h => by cases h
  | _ :: _, [], h => by cases h
  | x :: r, y :: s, h => by
    obtain ⟨h1, h2⟩ := List.cons.inj h
    rw [numS_inj h1, map_numS_inj h2]
/-- the row tells the step s -/
def RowIs (z : Str) (s : Stp) : Prop := Good s ∧ Txt.split z " " = s.1 :: s.2.map numS
theorem RowIs.inj {z : Str} {s t : Stp} (h : RowIs z s) (g : RowIs z t) : s = t := by
  have e := h.2.symm.trans g.2
  obtain ⟨h1, h2⟩ := List.cons.inj e
  exact Prod.ext h1 (map_numS_inj h2)
theorem RowIs.of {s : Stp} (g : Good s) : RowIs (rowS s) s := ⟨g, g.split⟩
open Classical in
noncomputable def rowQ (z : Str) : Option Stp := if h : ∃ s, RowIs z s then some h.choose else none
theorem rowQ_some {z : Str} {s : Stp} : rowQ z = some s ↔ RowIs z s := by
  unfold rowQ
  constructor
  · intro h
    split at h
    · rename_i e
      cases h
      exact e.choose_spec
    · cases h
  · intro h
    rw [dif_pos ⟨s, h⟩]
    exact congrArg some ((Exists.choose_spec (⟨s, h⟩ : ∃ s, RowIs z s)).inj h)
theorem rowQ_none {z : Str} : rowQ z = none ↔ ∀ s, ¬ RowIs z s := by
  constructor
  · intro h s hs
    rw [rowQ_some.mpr hs] at h
    cases h
  · intro h
    cases e : rowQ z with
    | none => rfl
    | some s => exact absurd (rowQ_some.mp e) (h s)
def meas (xs : List Str) : Nat := (xs.map fun z => z.length + 1).sum
theorem meas_append (a b : List Str) : meas (a ++ b) = meas a + meas b := by
  unfold meas
  rw [List.map_append, List.sum_append]
theorem meas_cons (z : Str) (b : List Str) : meas (z :: b) = z.length + 1 + meas b := by
  unfold meas
  rw [List.map_cons, List.sum_cons]
theorem meas_len (xs : List Str) : xs.length ≤ meas xs := by
  induction xs with
  | nil => exact Nat.zero_le _
  | cons z r ih =>
    rw [meas_cons, List.length_cons]
    omega
theorem meas_take (xs : List Str) (i : Nat) : meas (xs.take i) + meas (xs.drop i) = meas xs := by
  rw [← meas_append, List.take_append_drop]
theorem meas_mem {xs : List Str} {z : Str} (h : z ∈ xs) : z.length + 1 ≤ meas xs := by
  obtain ⟨a, b, rfl⟩ := List.append_of_mem h
  rw [meas_append, meas_cons]
  omega
theorem spl_meas (s : Nat) : ∀ (l acc : List Nat), ((spl [s] 0 acc l).map fun p => p.length + 1).sum = acc.length + l.length + 1
  | [], acc => by
    rw [spl_nil]
    simp
  | c :: r, acc => by
    cases h : pre [s] (c :: r) with
    | true =>
      rw [spl_hit h, List.map_cons, List.sum_cons, show ([s] : List Nat).length - 1 = 0 from rfl, spl_meas s r []]
      simp
      omega
    | false =>
      rw [spl_miss h, spl_meas s r (acc ++ [c])]
      simp
      omega
theorem meas_tl (xs : List Str) : meas xs = ((xs.map tl).map fun p => p.length + 1).sum := by
  unfold meas
  rw [List.map_map]
  refine congrArg List.sum (List.map_congr_left fun z _ => ?_)
  show z.length + 1 = (tl z).length + 1
  rw [len_tl]
theorem split_meas {z y : Str} {s : Nat} (ey : tl y = [s]) (hk : y.cps.all (· < 256) = true) : meas (Txt.split z y) = z.length + 1 := by
  rw [meas_tl, split_spl z y (by rw [ey]; simp) (kind_ok hk), ey, spl_meas, len_tl]
  simp
theorem joinL_meas {s : Nat} : ∀ ps : List (List Nat), (joinL [s] ps).length ≤ (ps.map fun p => p.length + 1).sum
  | [] => Nat.zero_le _
  | [p] => by
    show p.length ≤ _
    simp
  | p :: q :: r => by
    have ih := joinL_meas (s := s) (q :: r)
    show (p ++ ([s] ++ joinL [s] (q :: r))).length ≤ _
    rw [List.map_cons, List.sum_cons, List.length_append, List.length_append]
    have : ([s] : List Nat).length = 1 := rfl
    omega
theorem join_meas {y : Str} {s : Nat} (ey : tl y = [s]) (ps : List Str) : (Txt.join y ps).length ≤ meas ps := by
  rw [len_tl, join_eq, tl_join, ey, meas_tl]
  exact joinL_meas _
theorem split_ne {z y : Str} {s : Nat} (ey : tl y = [s]) (hk : y.cps.all (· < 256) = true) : Txt.split z y ≠ [] := fun e => by
  have h := split_meas (z := z) ey hk
  rw [e] at h
  exact absurd h (by simp [meas])
theorem sum_join {y : Str} {s : Nat} (ey : tl y = [s]) (ps : List Str) : (ps.map (·.length)).sum + ps.length * y.length = meas ps := by
  have e : y.length = 1 := by rw [len_tl, ey]; rfl
  rw [e, Nat.mul_one]
  induction ps with
  | nil => rfl
  | cons a r ih =>
    rw [meas_cons, List.map_cons, List.sum_cons, List.length_cons]
    omega
end Zw
set_option Elab.async false
set_option linter.all false
set_option maxRecDepth 100000
set_option maxHeartbeats 4000000
namespace Zw
open PySem PySem.Spec PyProof.Rows L2
def bltNames : List Str := ["len", "isinstance", "int", "bool", "str", "list", "tuple", "sorted", "min", "max", "abs", "sum", "any", "all", "dict", "range", "enumerate", "zip", "ValueError", "set"]
abbrev kindNames : List Str := ["BadNumber", "BadSizes", "BadText", "BadVolume", "Full", "Lost", "NoBlock", "NoDisk", "NoVolume", "Stopped"]
abbrev HP := Hp → Prop
/-- what never changes may be shared -/
def fixO : HO → Bool | .tup _ => true | .frz _ (.ext _) => true | .frz _ (.lst _) => true | _ => false
def Sub (h H : Hp) : Prop := ∀ a o, h a = some o → H a = some o
def Dj (h g : Hp) : Prop := ∀ a o u, h a = some o → g a = some u → fixO o = true
def SL : List HP → Hp → Prop
  | [], _ => True
  | A :: l, H => ∃ h g, Sub h H ∧ Sub g H ∧ Dj h g ∧ A h ∧ SL l g
def pt (p : Addr) (o : HO) : HP := fun h => h p = some o
theorem Sub.refl (H : Hp) : Sub H H := fun _ _ h => h
theorem Sub.trans {h g H : Hp} (a : Sub h g) (b : Sub g H) : Sub h H := fun c o e => b c o (a c o e)
theorem SL.mono : ∀ {l : List HP} {H H' : Hp}, Sub H H' → SL l H → SL l H'
  | [], _, _, _, _ => trivial
  | _ :: _, _, _, s, ⟨h, g, a, b, d, x, y⟩ => ⟨h, g, a.trans s, b.trans s, d, x, y⟩
/-- two parts of one heap -/
def join (h g : Hp) : Hp := fun a => match h a with | some o => some o | none => g a
theorem sub_l (h g : Hp) : Sub h (join h g) := fun a o e => by unfold join; rw [e]
theorem sub_r {h g H : Hp} (a : Sub h H) (b : Sub g H) : Sub g (join h g) := fun c o e => by
  unfold join
  cases q : h c with
  | none => exact e
  | some u =>
    have h1 := a c u q
    have h2 := b c o e
    rw [h1] at h2
    exact h2
theorem join_sub {h g H : Hp} (a : Sub h H) (b : Sub g H) : Sub (join h g) H := fun c o e => by
  unfold join at e
  cases q : h c with
  | none => rw [q] at e; exact b c o e
  | some u => rw [q] at e; exact a c o (q.trans e)
theorem Dj.sub {h g h' g' : Hp} (d : Dj h g) (a : Sub h' h) (b : Sub g' g) : Dj h' g' := fun c o u e f => d c o u (a c o e) (b c u f)
theorem Dj.symm {h g H : Hp} (d : Dj h g) (a : Sub h H) (b : Sub g H) : Dj g h := fun c o u e f => by
  have h1 := a c u f
  have h2 := b c o e
  rw [h1] at h2
  cases h2
  exact d c o o f e
theorem Dj.join_r {h g i : Hp} (d : Dj h g) (e : Dj h i) : Dj h (join g i) := fun c o u p q => by
  unfold join at q
  cases r : g c with
  | none => rw [r] at q; exact e c o u p q
  | some z => exact d c o z p r
theorem Dj.join_l {h g i : Hp} (d : Dj h i) (e : Dj g i) : Dj (join h g) i := fun c o u p q => by
  unfold join at p
  cases r : h c with
  | none => rw [r] at p; exact e c o u p q
  | some z =>
    rw [r] at p
    cases p
    exact d c o u r q
theorem SL.swap {A B : HP} {l : List HP} {H : Hp} (x : SL (A :: B :: l) H) : SL (B :: A :: l) H := by
  obtain ⟨h, g, s1, s2, d, a, hb, gr, s3, s4, d2, b, r⟩ := x
  refine ⟨hb, join h gr, s3.trans s2, join_sub s1 (s4.trans s2), ?_, b, h, gr, sub_l _ _, sub_r s1 (s4.trans s2), d.sub (Sub.refl _) s4, a, r⟩
  exact Dj.join_r ((d.sub (Sub.refl _) s3).symm s1 (s3.trans s2)) d2
theorem SL.perm {l l' : List HP} (p : l.Perm l') : ∀ {H : Hp}, SL l H → SL l' H := by
  induction p with
  | nil => exact fun x => x
  | cons A p ih => exact fun ⟨h, g, a, b, d, x, y⟩ => ⟨h, g, a, b, d, x, ih y⟩
  | swap A B l => exact fun x => x.swap
  | trans p q ihp ihq => exact fun x => ihq (ihp x)
theorem SL.tail {A : HP} {l : List HP} {H : Hp} (x : SL (A :: l) H) : SL l H := by
  obtain ⟨h, g, a, b, d, x, y⟩ := x
  exact y.mono b
/-- A is taken out of l, r is left -/
inductive Pk {α : Type _} (a : α) : List α → List α → Prop
  | hd {l : List α} : Pk a (a :: l) l
  | tl {b : α} {l r : List α} : Pk a l r → Pk a (b :: l) (b :: r)
theorem Pk.perm {α : Type _} {a : α} {l r : List α} (p : Pk a l r) : l.Perm (a :: r) := by
  induction p with
  | hd => exact .refl _
  | tl p ih => exact (List.Perm.cons _ ih).trans (.swap _ _ _)
theorem SL.pk {A : HP} {l r : List HP} {H : Hp} (x : SL l H) (p : Pk A l r) : SL (A :: r) H := x.perm p.perm
theorem SL.unpk {A : HP} {l r : List HP} {H : Hp} (p : Pk A l r) (x : SL (A :: r) H) : SL l H := x.perm p.perm.symm
/-- several are taken out -/
inductive Pks {α : Type _} : List α → List α → List α → Prop
  | nil {l : List α} : Pks [] l l
  | cons {a : α} {as l r r' : List α} : Pk a l r → Pks as r r' → Pks (a :: as) l r'
theorem Pks.perm {α : Type _} {as l r : List α} (p : Pks as l r) : l.Perm (as ++ r) := by
  induction p with
  | nil => exact .refl _
  | cons h p ih => exact h.perm.trans (.cons _ ih)
theorem SL.imp {A B : HP} {l : List HP} {H : Hp} (x : SL (A :: l) H) (f : ∀ h, A h → B h) : SL (B :: l) H := by
  obtain ⟨h, g, a, b, d, x, y⟩ := x
  exact ⟨h, g, a, b, d, f h x, y⟩
theorem SL.ex {α : Sort _} {A : α → HP} {l : List HP} {H : Hp} (x : SL ((fun h => ∃ i, A i h) :: l) H) : ∃ i, SL (A i :: l) H := by
  obtain ⟨h, g, a, b, d, ⟨i, x⟩, y⟩ := x
  exact ⟨i, h, g, a, b, d, x, y⟩
theorem SL.fact {P : Prop} {l : List HP} {H : Hp} (x : SL ((fun _ => P) :: l) H) : P ∧ SL l H := by
  obtain ⟨h, g, a, b, d, p, y⟩ := x
  exact ⟨p, y.mono b⟩
theorem SL.nest : ∀ {m l : List HP} {H : Hp}, SL (SL m :: l) H → SL (m ++ l) H
  | [], l, H, x => x.tail
  | A :: m, l, H, ⟨h, g, a, b, d, ⟨h1, h2, s1, s2, d2, x1, x2⟩, y⟩ => by
    refine ⟨h1, join h2 g, s1.trans a, join_sub (s2.trans a) b, Dj.join_r d2 (d.sub s1 (Sub.refl _)), x1, ?_⟩
    exact SL.nest ⟨h2, g, sub_l _ _, sub_r (s2.trans a) b, d.sub s2 (Sub.refl _), x2, y⟩
theorem SL.unnest : ∀ {m l : List HP} {H : Hp}, SL (m ++ l) H → SL (SL m :: l) H
  | [], l, H, x => ⟨fun _ => none, H, (fun _ _ e => by cases e), Sub.refl _, (fun _ _ _ e => by cases e), trivial, x⟩
  | A :: m, l, H, ⟨h, g, a, b, d, x, y⟩ => by
    obtain ⟨h1, g1, s1, s2, d2, x1, y1⟩ := SL.unnest y
    refine ⟨join h h1, g1, join_sub a (s1.trans b), s2.trans b, Dj.join_l (d.sub (Sub.refl _) s2) d2, ⟨h, h1, sub_l _ _, sub_r a (s1.trans b), d.sub (Sub.refl _) s1, x, x1⟩, y1⟩
def one (p : Addr) (o : HO) : Hp := upd (fun _ => none) p o
theorem one_at {p : Addr} {o : HO} : one p o p = some o := upd_same
theorem one_some {p a : Addr} {o u : HO} (e : one p o a = some u) : a = p ∧ u = o := by
  unfold one at e
  by_cases h : a = p
  · subst h
    rw [upd_same] at e
    exact ⟨rfl, (Option.some.inj e).symm⟩
  · rw [upd_ne h] at e; cases e
theorem SL.get {p : Addr} {o : HO} : ∀ {l : List HP} {H : Hp}, pt p o ∈ l → SL l H → H p = some o
  | A :: l, H, m, ⟨h, g, a, b, d, x, y⟩ => by
    cases m with
    | head => exact a p o x
    | tail _ m => exact b p o (SL.get m y)
theorem SL.new {l : List HP} {H : Hp} {p : Addr} (o : HO) (n : H p = none) (x : SL l H) : SL (pt p o :: l) (upd H p o) := by
  refine ⟨one p o, H, fun a u e => ?_, fun a u e => ?_, fun a u v e f => ?_, one_at, x⟩
  · obtain ⟨rfl, rfl⟩ := one_some e
    exact upd_same
  · rw [upd_ne (ne_of_none e n)]; exact e
  · obtain ⟨rfl, rfl⟩ := one_some e
    rw [n] at f; cases f
/-- what stands at p is another thing now -/
inductive Rp {α : Type _} (a b : α) : List α → List α → Prop
  | hd {l : List α} : Rp a b (a :: l) (b :: l)
  | tl {c : α} {l r : List α} : Rp a b l r → Rp a b (c :: l) (c :: r)
theorem Rp.of {α : Type _} {a b : α} {l l' : List α} (p : Rp a b l l') : ∃ r, Pk a l r ∧ Pk b l' r := by
  induction p with
  | hd => exact ⟨_, .hd, .hd⟩
  | tl p ih =>
    obtain ⟨r, h1, h2⟩ := ih
    exact ⟨_, .tl h1, .tl h2⟩
theorem SL.wr {l l' : List HP} {H : Hp} {p : Addr} {o o' : HO} (r : Rp (pt p o) (pt p o') l l') (f : fixO o = false) (x : SL l H) : SL l' (upd H p o') := by
  obtain ⟨r, h1, h2⟩ := r.of
  refine SL.unpk h2 ?_
  obtain ⟨h, g, a, b, d, x, y⟩ := x.pk h1
  have gn : g p = none := by
    cases q : g p with
    | none => rfl
    | some u =>
      have := d p o u x q
      rw [f] at this; cases this
  refine ⟨one p o', g, fun a u e => ?_, fun a u e => ?_, fun a u v e f => ?_, one_at, y⟩
  · obtain ⟨rfl, rfl⟩ := one_some e
    exact upd_same
  · rw [upd_ne (ne_of_none e gn)]; exact b a u e
  · obtain ⟨rfl, rfl⟩ := one_some e
    rw [gn] at f; cases f
theorem SL.drop {A : HP} {l r : List HP} {H : Hp} (p : Pk A l r) (x : SL l H) : SL r H := (x.pk p).tail
/-- the object of a lambda: its defaults are dV -/
abbrev lamFd (qual : Str) (params : Arguments) (body : Expr) (scope : Scope) (cl : List (Str × Addr)) (dV pm cv ctv : Value) : FuncData :=
  { name := "<lambda>", qualname := qual, params, body := .expr body, scope, globals := mainGlobals, closure := cl, defaults := dV, kwdefaults := .none, doc := .none, pyModule := pm, annotations := none, code := cv, closureTuple := ctv, builtins := builtinsNs }
abbrev lamO (qual : Str) (params : Arguments) (body : Expr) (scope : Scope) (cl : List (Str × Addr)) (dV pm cv ctv : Value) : Obj :=
  { cls := .type "function", data := .func (lamFd qual params body scope cl dV pm cv ctv) }
section
variable {M : Model} {A : Around} {X : Value → Shared → Prop} {s : Shared} {qual : Str} {params : Arguments} {body : Expr} {scope : Scope} {env : Env} {c P : Addr} {ps : Array Value} {pos : Pos} {ln : Nat} {mg : Str → Option Value}
  {cl : List (Str × Addr)} {Q : Value → Shared → Prop} {dV : Value}
/-- what is told of the heap behind the making: the code object is old or new -/
def LamEnd (s : Shared) (P : Addr) (ps : Array Value) (pos : Pos) (qual : Str) (cv : Value) (h' : Heap) : Prop :=
  (∀ b o, b ≠ P → s.heap.get? b = some o → h'.get? b = some o) ∧ s.heap.objs.size ≤ h'.objs.size ∧
  ((codeAmong pos ps.toList = some cv ∧ h'.get? P = s.heap.get? P) ∨
   (∃ c', cv = .ref c' ∧ s.heap.objs.size ≤ c' ∧ c' < h'.objs.size ∧ h'.CodeRec (.ref c') qual ∧ h'.get? P = some (PySem.W.tabObj (ps ++ #[rawInt pos.line, rawInt pos.col, .ref c']))))
theorem lam_tail (hcl : closureFor scope env = pure cl) (hge : env.globals = mainGlobals) (hg : s.heap.Ns mainGlobals mg) (hcode : env.code = .ref c) (C : PySem.W.CodeHd s.heap c P) (hP : s.heap.get? P = some (PySem.W.tabObj ps)) (ht : TriplesOk ps.toList)
    (hgP : mainGlobals ≠ P) (hb : s.heap.BuiltinsAt mg P)
    (h : ∀ cv ctv h' tk, LamEnd s P ps pos qual cv h' → Q (.ref h'.objs.size) { s with heap := h'.push (lamO qual params body scope cl dV ((mg "__name__").getD .none) cv ctv), toks := tk }) :
    wpAny M A (makeTail "<lambda>" qual params (.expr body) scope env dV .none none pos ln) Q X s := by
  obtain ⟨bm, ob, e1, e2, _, e3, e4, e5, e6, e7⟩ := hb
  -- the closure's tuple is laid or not; then the code object, found or made
  have go : ∀ (s1 : Shared) (ctv : Value), (∀ b o, s.heap.get? b = some o → s1.heap.get? b = some o) → s.heap.objs.size ≤ s1.heap.objs.size → s1.gens = s.gens → s1.drawn = s.drawn → s1.os = s.os →
      wpAny M A (do
        let code ← functionCode env pos ln "<lambda>" qual params scope (.expr body)
        let b ← builtinsFor env.globals env.builtins
        let pm ← nsGet env.globals "__name__"
        let dc ← pure Value.none
        newObj (.type "function") (.func { name := "<lambda>", qualname := qual, params, body := .expr body, scope, globals := env.globals, closure := cl, defaults := dV, kwdefaults := .none, doc := dc, pyModule := pm.getD .none, annotations := none, code := code, closureTuple := ctv, builtins := b })) Q X s1 := by
    intro s1 ctv k hsz g1 g2 g3
    have hg1 := hg.keeps k
    have hP1 := k _ _ hP
    have C1 := C.keeps k
    have e41 := k _ _ e4
    obtain ⟨hh, gg, dd, tt, oo⟩ := s1
    cases g1; cases g2; cases g3
    cases hf : codeAmong pos ps.toList with
    | some cv =>
      refine wpAny_bind (wpAny_functionCode_hit hcode (C1.code hP1 ht) hf ?_)
      rw [hge]
      refine wpAny_bind (wpAny_builtinsFor hg1 e1 e2 e41 e5 e6 e7 ?_)
      refine wpAny_bind (wpAny_nsGet hg1 ?_)
      exact wpAny_bind (wpAny_pure (wpAny_newObj_type (h cv ctv hh tt ⟨fun b o _ q => k b o q, hsz, .inl ⟨hf, by rw [hP]; exact hP1⟩⟩) (by size_fits)))
    | none =>
      refine wpAny_bind (wpAny_functionCodeX hcode (C1.code hP1 ht) (C1.tab hP1) hf fun c' h' tk hx hge' hlt _ hrec htb _ => ?_)
      have hg2 := hg1.extBut hx hgP
      rw [hge]
      refine wpAny_bind (wpAny_builtinsFor hg2 e1 e2 (hx _ _ e3 e41) e5 e6 e7 ?_)
      refine wpAny_bind (wpAny_nsGet hg2 ?_)
      exact wpAny_bind (wpAny_pure (wpAny_newObj_type (h (.ref c') ctv h' tk ⟨fun b o hb q => hx b o hb (k b o q), Nat.le_trans hsz (Nat.le_trans hge' (Nat.le_of_lt hlt)), .inr ⟨c', rfl, Nat.le_trans hsz hge', hlt, hrec, htb.2⟩⟩) (by size_fits)))
  unfold makeTail
  rw [hcl]
  refine wpAny_bind (wpAny_pure ?_)
  cases cl with
  | nil =>
    simp only [List.isEmpty_nil, if_true]
    refine wpAny_bind (wpAny_pure ?_)
    exact go s .none (fun _ _ q => q) (Nat.le_refl _) rfl rfl rfl
  | cons q r =>
    simp only [List.isEmpty_cons, Bool.false_eq_true, if_false]
    refine wpAny_bind (wpAny_newTextTuple ?_)
    refine go _ _ (fun b o e => ?_) ?_ rfl rfl rfl
    · exact Heap.get?_push_of_some _ e
    · show s.heap.objs.size ≤ (s.heap.push _).objs.size
      rw [Heap.size_push]
      omega
end
abbrev uT : HO := .ext fun _ => True
/-- the tables of code objects: each code object told there is known -/
def tabsOk (T : List (Addr × Str)) (H : Hp) : Prop := ∀ p ∈ T, ∃ ps : Array Value, H p.1 = some (.tbl ps) ∧ TriplesOk ps.toList ∧ ∀ (pos : Pos) (cv : Value), codeAmong pos ps.toList = some cv → ∃ c od, cv = .ref c ∧ H c = some (.frz od (LamX.CodeO c p.2))
/-- all but the tables stays -/
def KeepT (T : List (Addr × Str)) (H H' : Hp) : Prop := ∀ b o, H b = some o → (∀ p ∈ T, p.1 ≠ b) → H' b = some o
theorem tabsOk.laid {T : List (Addr × Str)} {H : Hp} {a : Addr} {o : HO} (t : tabsOk T H) (n : H a = none) : tabsOk T (upd H a o) := fun p hp => by
  obtain ⟨ps, h1, h2, h3⟩ := t p hp
  refine ⟨ps, by rw [upd_ne (ne_of_none h1 n)]; exact h1, h2, fun pos cv e => ?_⟩
  obtain ⟨c, od, e1, e2⟩ := h3 pos cv e
  exact ⟨c, od, e1, by rw [upd_ne (ne_of_none e2 n)]; exact e2⟩
theorem KeepT.laid {T : List (Addr × Str)} {H : Hp} {a : Addr} {o : HO} (n : H a = none) : KeepT T H (upd H a o) := fun b u e _ => by rw [upd_ne (ne_of_none e n)]; exact e
theorem KeepT.trans {T : List (Addr × Str)} {H H' H2 : Hp} (a : KeepT T H H') (b : KeepT T H' H2) : KeepT T H H2 := fun c o e n => b c o (a c o e n) n
section
variable {X : Cx} {pins : List (Addr × Obj)} {σ : L2.St} {H : Hp} {s : Shared} {T : List (Addr × Str)} {c P : Addr} {q : Str}
/-- behind the making of a lambda -/
theorem lam_end (I : Inv X pins σ H s) (hm : (P, q) ∈ T) (hu : ∀ p ∈ T, p.1 = P → p.2 = q) (hT : tabsOk T H) {ps : Array Value} (hP : H P = some (.tbl ps)) (ht : TriplesOk ps.toList) {pos : Pos} {cv : Value} {h' : Heap} {tk : Tok} (L : LamEnd s P ps pos q cv h') {o : Obj} (ho : o.isFreed = false) :
    ∃ c' od H1, cv = .ref c' ∧ Inv X pins σ H1 { s with heap := h'.push o, toks := tk } ∧ KeepT T H H1 ∧ tabsOk T H1 ∧ H1 h'.objs.size = some (.frz o uT) ∧ H1 c' = some (.frz od (LamX.CodeO c' q)) := by
  obtain ⟨k, hsz, L⟩ := L
  have hPs : s.heap.get? P = some { cls := .none, data := .fields ps } := I.hok P _ hP
  have lay : ∀ {H1 : Hp} {s1 : Shared}, Inv X pins σ H1 s1 → s1.heap = h' → s1.gens = s.gens → s1.drawn = s.drawn → s1.os = s.os → H1 h'.objs.size = none ∧ Inv X pins σ (upd H1 h'.objs.size (.frz o uT)) { s with heap := h'.push o, toks := tk } := by
    intro H1 s1 J e1 e2 e3 e4
    obtain ⟨a1, a2, a3, a4, a5⟩ := s1
    cases e1; cases e2; cases e3; cases e4
    have hn : H1 a1.objs.size = none := J.hok.fresh (Nat.le_refl _)
    exact ⟨hn, J.laid (t' := tk) (h' := a1.push o) (fun b u e => Heap.get?_push_of_some _ e) (Nat.le_refl _) ⟨Heap.get?_push_size _ ho, trivial, ⟨_, Heap.get?_push_size _ ho⟩, fun _ _ _ _ => trivial⟩⟩
  rcases L with ⟨hf, hP2⟩ | ⟨c', rfl, hge, hlt, hrec, hP2⟩
  · obtain ⟨ps', e1, e2, e3⟩ := hT _ hm
    have e1 : H P = some (.tbl ps') := e1
    rw [hP] at e1
    cases e1
    obtain ⟨c', od, rfl, hc⟩ := e3 pos cv hf
    have J : Inv X pins σ H { s with heap := h', toks := tk } := I.kept fun b u e => by
      by_cases hb : b = P
      · rw [hb] at e ⊢
        rw [hP2]
        exact e
      · exact k b u hb e
    obtain ⟨hn, J2⟩ := lay J rfl rfl rfl rfl
    exact ⟨c', od, _, rfl, J2, KeepT.laid hn, hT.laid hn, upd_same, by rw [upd_ne (ne_of_none hc hn)]; exact hc⟩
  · obtain ⟨c2, oc, vs, t, e2, hoc, hd, hv⟩ := hrec
    cases e2
    have J := LamX.inv_table (t' := tk) (q := q) (c := c') (more := #[rawInt pos.line, rawInt pos.col, .ref c']) I hP k hP2 hge ⟨oc, vs, t, hoc, hd, hv⟩
    have nC : H c' = none := I.hok.fresh hge
    have nPc : P ≠ c' := ne_of_none hP nC
    obtain ⟨od, J1⟩ := J.lock (d := c') upd_same trivial
    rw [upd_upd] at J1
    obtain ⟨hn, J2⟩ := lay J1 rfl rfl rfl rfl
    have at1 : upd (upd H P (.tbl (ps ++ #[rawInt pos.line, rawInt pos.col, .ref c']))) c' (.frz od (LamX.CodeO c' q)) c' = some (.frz od (LamX.CodeO c' q)) := upd_same
    have keep : KeepT T H (upd (upd H P (.tbl (ps ++ #[rawInt pos.line, rawInt pos.col, .ref c']))) c' (.frz od (LamX.CodeO c' q))) := fun b u e n => by
      rw [upd_ne (ne_of_none e nC), upd_ne (fun z => n _ hm z.symm)]
      exact e
    have frz : ∀ {d : Addr} {o2 : Obj} {u2 : HO}, H d = some (.frz o2 u2) → upd (upd H P (.tbl (ps ++ #[rawInt pos.line, rawInt pos.col, .ref c']))) c' (.frz od (LamX.CodeO c' q)) d = some (.frz o2 u2) := fun {d o2 u2} e => by
      rw [upd_ne (ne_of_none e nC), upd_ne (fun z => by rw [z, hP] at e; cases e)]
      exact e
    have tabs : tabsOk T (upd (upd H P (.tbl (ps ++ #[rawInt pos.line, rawInt pos.col, .ref c']))) c' (.frz od (LamX.CodeO c' q))) := fun p hp => by
      obtain ⟨ps', e1, e2, e3⟩ := hT p hp
      by_cases hpP : p.1 = P
      · rw [hpP, hP] at e1
        cases e1
        refine ⟨_, by rw [hpP, upd_ne nPc, upd_same], by rw [Array.toList_append]; exact PySem.TriplesOk_snoc _ _ _ _ ht, fun p' cv' e => ?_⟩
        rw [Array.toList_append] at e
        rcases LamX.among_app _ ht e with z | z
        · obtain ⟨d, od', r1, r2⟩ := e3 p' cv' z
          exact ⟨d, od', r1, frz r2⟩
        · rw [hu p hp hpP]
          exact ⟨c', od, z, at1⟩
      · refine ⟨ps', by rw [upd_ne (ne_of_none e1 nC), upd_ne hpP]; exact e1, e2, fun p' cv' e => ?_⟩
        obtain ⟨d, od', r1, r2⟩ := e3 p' cv' e
        exact ⟨d, od', r1, frz r2⟩
    exact ⟨c', od, _, rfl, J2, keep.trans (KeepT.laid hn), tabs.laid hn, upd_same, by rw [upd_ne (ne_of_none at1 hn)]; exact at1⟩
end
/-- no parameter, or one with a written default -/
inductive LPar : Arguments → List (Str × Int) → Prop
  | p0 : LPar ⟨[], [], none, [], [], none, []⟩ []
  | p1 (a : Str) (i : Int) (j : Nat) (p p2 : Pos) : LPar ⟨[], [⟨a, none, p⟩], none, [], [], none, [.Constant (.int i) j p2]⟩ [(a, i)]
def lparB (A : Arguments) : Option (List (Str × Int)) := match A with
  | ⟨[], [], none, [], [], none, []⟩ => some []
  | ⟨[], [⟨a, none, _⟩], none, [], [], none, [.Constant (.int i) _ _]⟩ => some [(a, i)]
  | _ => none
theorem lparB_ok {A : Arguments} {l : List (Str × Int)} (h : lparB A = some l) : LPar A l := by
  unfold lparB at h
  split at h
  · cases h; exact .p0
  · cases h; exact .p1 _ _ _ _ _
  · cases h
/-- the names of a lambda's scope, in N and the maker's scope sc -/
def lamB (N : List Str) (sc scope : Scope) (l : List (Str × Int)) : Bool :=
  decide (scope.kind = .function) && !scope.isCoroutine && !scope.isGenerator && (l.all fun p => decide (scope.names.lookup p.1 = some .local) && decide (p.1 ∉ N)) &&
  (scope.names.all fun y => !decide (y.2 = .cell) && (!decide (y.2 = .local) || decide (y.1 ∉ N)) && (!decide (y.2 = .free) || decide (sc.names.lookup y.1 = some .cell) || decide (sc.names.lookup y.1 = some .free)))
structure LamSc (N : List Str) (sc scope : Scope) (l : List (Str × Int)) : Prop where
  kind : scope.kind = .function
  co : scope.isCoroutine = false
  gen : scope.isGenerator = false
  par : ∀ p ∈ l, scope.names.lookup p.1 = some .local ∧ p.1 ∉ N
  cell : ∀ y ∈ scope.names, y.2 ≠ .cell
  loc : ∀ y ∈ scope.names, y.2 = .local → y.1 ∉ N
  free : ∀ y ∈ scope.names, y.2 = .free → sc.names.lookup y.1 = some .cell ∨ sc.names.lookup y.1 = some .free
theorem lamB_ok {N : List Str} {sc scope : Scope} {l : List (Str × Int)} (h : lamB N sc scope l = true) : LamSc N sc scope l := by
  unfold lamB at h
  simp only [Bool.and_eq_true, Bool.or_eq_true, Bool.not_eq_true', decide_eq_true_eq, decide_eq_false_iff_not, List.all_eq_true] at h
  obtain ⟨⟨⟨⟨h1, h2⟩, h3⟩, h4⟩, h5⟩ := h
  refine ⟨h1, h2, h3, h4, fun y hy => (h5 y hy).1.1, fun y hy e => ?_, fun y hy e => ?_⟩
  · rcases (h5 y hy).1.2 with z | z
    · exact absurd e z
    · exact z
  · rcases (h5 y hy).2 with (z | z) | z
    · exact absurd e z
    · exact .inl z
    · exact .inr z
section
variable {X : Cx}
theorem LamSc.has {N : List Str} {scope : Scope} {l : List (Str × Int)} (L : LamSc N X.env.scope scope l) (ok : X.Ok) : ∀ y ∈ scope.names, y.2 = .free → ∃ c, X.env.cells.lookup y.1 = some c := fun y hy e => by
  rcases L.free y hy e with k | k
  · exact ok.has _ (.inl k)
  · exact ok.has _ (.inr k)
/-- a lambda's value at f: its own object, its code object, its defaults are known, by fz -/
def MadeBy (X : Cx) (params : Arguments) (body : Expr) (scope : Scope) (l : List (Str × Int)) (f : Addr) (fz : List (Addr × HO)) : Prop :=
  ∃ dV pm c' od ctv, (f, HO.frz (lamO (X.env.qual ++ "<lambda>") params body scope (cloFrom X.env.cells scope.names []) dV pm (.ref c') ctv) uT) ∈ fz ∧ (c', HO.frz od (LamX.CodeO c' (X.env.qual ++ "<lambda>"))) ∈ fz ∧
    ((l = [] ∧ dV = .none) ∨ ∃ t, l ≠ [] ∧ dV = .ref t ∧ (t, HO.tup (l.map fun p => .int p.2)) ∈ fz) ∧ ∀ p ∈ fz, fixO p.2 = true
/-- the lambda is made -/
theorem pe_lam {params : Arguments} {body : Expr} {scope : Scope} {pos : Pos} {l : List (Str × Int)} {T : List (Addr × Str)} {c P : Addr} {N : List Str} (hp : LPar params l) (L : LamSc N X.env.scope scope l) (TB : LamX.TabB X.base X.mg c P) (hcode : X.env.code = .ref c) (hm : (P, X.env.qual ++ "<lambda>") ∈ T)
    (hu : ∀ p ∈ T, p.1 = P → p.2 = X.env.qual ++ "<lambda>") :
    PE X (.Lambda params body scope pos) (fun _ H Q => tabsOk T H ∧ ∀ f fz H1, KeepT T H H1 → tabsOk T H1 → (∀ p ∈ fz, H1 p.1 = some p.2) → MadeBy X params body scope l f fz → Q (.ref f) H1) := by
  refine ⟨fun pins s σ H Q I h => ?_⟩
  obtain ⟨hT, h⟩ := h
  rw [arm_eval_Lambda]
  -- the making itself, behind the defaults
  have make : ∀ (s1 : Shared) (H1 : Hp) (dV : Value) (dz : List (Addr × HO)), Inv X pins σ H1 s1 → KeepT T H H1 → tabsOk T H1 → (∀ p ∈ dz, H1 p.1 = some p.2 ∧ fixO p.2 = true) → ((l = [] ∧ dV = .none) ∨ ∃ t, l ≠ [] ∧ dV = .ref t ∧ (t, HO.tup (l.map fun p => .int p.2)) ∈ dz) →
      wpAny (model X.prog X.w) X.A (makeTail "<lambda>" (X.env.qual ++ "<lambda>") params (.expr body) scope X.env dV .none none pos pos.line) (EP X pins σ Q) X.xe s1 := by
    intro s1 H1 dV dz I1 k1 t1 z1 d1
    obtain ⟨ps, hP, ht, ha⟩ := t1 _ hm
    have hP : H1 P = some (.tbl ps) := hP
    refine lam_tail (mg := X.mg) (c := c) (P := P) (ps := ps) (closure_ok (L.has I1.ok)) I1.ok.glob (I1.mod.glob.keeps I1.bk) hcode (TB.code.keeps I1.bk) (I1.hok P _ hP) ht TB.gP (TB.bm.keeps I1.bk) fun cv ctv h' tk e => ?_
    obtain ⟨c', od, H2, rfl, I2, k2, t2, e1, e2⟩ := lam_end (o := lamO (X.env.qual ++ "<lambda>") params body scope (cloFrom X.env.cells scope.names []) dV ((X.mg "__name__").getD .none) cv ctv) I1 hm hu t1 hP ht e rfl
    refine ⟨.ref h'.objs.size, H2, I2, rfl, h _ ((h'.objs.size, HO.frz (lamO (X.env.qual ++ "<lambda>") params body scope (cloFrom X.env.cells scope.names []) dV ((X.mg "__name__").getD .none) (.ref c') ctv) uT) :: (c', HO.frz od (LamX.CodeO c' (X.env.qual ++ "<lambda>"))) :: dz) H2 (k1.trans k2) t2 (fun p hp => ?_) ⟨dV, (X.mg "__name__").getD .none, c', od, ctv, List.mem_cons_self, List.mem_cons_of_mem _ List.mem_cons_self, ?_, fun p hp => ?_⟩⟩
    · rcases List.mem_cons.mp hp with rfl | hp
      · exact e1
      · rcases List.mem_cons.mp hp with rfl | hp
        · exact e2
        · obtain ⟨q1, q2⟩ := z1 p hp
          refine k2 _ _ q1 fun r hr z => ?_
          obtain ⟨ps', w1, _⟩ := t1 r hr
          rw [z, q1] at w1
          rw [Option.some.inj w1] at q2
          cases q2
    · rcases d1 with d1 | ⟨t, d1, d2, d3⟩
      · exact .inl d1
      · exact .inr ⟨t, d1, d2, List.mem_cons_of_mem _ (List.mem_cons_of_mem _ d3)⟩
    · rcases List.mem_cons.mp hp with rfl | hp
      · rfl
      · rcases List.mem_cons.mp hp with rfl | hp
        · rfl
        · exact (z1 p hp).2
  cases hp with
  | p0 =>
    show wpAny _ _ (do let dv ← evalAll []; let kdv ← holding dv (evalAllOpt []); makeFunction "<lambda>" (X.env.qual ++ "<lambda>") _ (.expr body) scope X.env dv kdv [] pos pos.line) _ _ _
    refine wpAny_bind (wpAny_pure (wpAny_bind (wpAny_holding (wpAny_pure ?_))))
    rw [makeFunction_eq]
    simp only [List.zip_nil_right, List.filterMap_nil, List.isEmpty_nil, if_true, pure_bind]
    exact make s H .none [] I (fun _ _ e _ => e) hT (fun _ hp => by cases hp) (.inl ⟨rfl, rfl⟩)
  | p1 a i j p p2 =>
    show wpAny _ _ (do let dv ← evalAll [eval (.Constant (.int i) j p2) X.env]; let kdv ← holding dv (evalAllOpt []); makeFunction "<lambda>" (X.env.qual ++ "<lambda>") _ (.expr body) scope X.env dv kdv [] pos pos.line) _ _ _
    refine wpAny_bind (wpAny_evalAll_cons (wpAny_Constant_int (wpAny_evalAll_nil ?_)))
    refine wpAny_bind (wpAny_holding (wpAny_pure ?_))
    rw [makeFunction_eq]
    simp only [List.zip_nil_right, List.filterMap_nil, List.isEmpty_nil, List.isEmpty_cons, Bool.false_eq_true, if_false, if_true, pure_bind]
    refine wpAny_bind (wpAny_newTextTuple ?_)
    have I0 := I.tok (s.toks + 1)
    have hn : H s.heap.objs.size = none := I.hok.fresh (Nat.le_refl _)
    refine make _ (upd H s.heap.objs.size (.tup [.int i])) _ [(s.heap.objs.size, .tup [.int i])] (I.laid (t' := s.toks + 1) (fun b o e => Heap.get?_push_of_some _ e) (Nat.le_refl _) ?_) (KeepT.laid hn) (hT.laid hn) (fun q hq => ?_) (.inr ⟨_, by simp, rfl, by simp⟩)
    · exact ⟨by show 1 ≤ sizeLine; decide, [_], .cons ⟨_, rfl⟩ .nil, ⟨_, Heap.get?_push_size _ rfl, rfl, _, rfl⟩⟩
    · rcases List.mem_cons.mp hq with rfl | hq
      · exact ⟨upd_same, rfl⟩
      · cases hq
end
/-- known cells: each a cell's own object -/
def CzK (cz : Hp) : Prop := ∀ a o, cz a = some o → ∃ oc, o = .frz oc (.own 0) ∧ ∃ v, oc.data = .cell v
def less (cz H : Hp) : Hp := fun a => match cz a with | some _ => none | none => H a
theorem join_cz {cz H : Hp} {a : Addr} {o : HO} (e : cz a = some o) : join cz H a = some o := by unfold join; rw [e]
theorem join_no {cz H : Hp} {a : Addr} (e : cz a = none) : join cz H a = H a := by unfold join; rw [e]
theorem less_cz {cz H : Hp} {a : Addr} {o : HO} (e : cz a = some o) : less cz H a = none := by unfold less; rw [e]
theorem less_no {cz H : Hp} {a : Addr} (e : cz a = none) : less cz H a = H a := by unfold less; rw [e]
theorem cz_or (cz : Hp) (a : Addr) : (∃ o, cz a = some o) ∨ cz a = none := by
  cases cz a with
  | none => exact .inr rfl
  | some o => exact .inl ⟨o, rfl⟩
theorem less_some {cz H : Hp} {a : Addr} {o : HO} (e : less cz H a = some o) : cz a = none ∧ H a = some o := by
  rcases cz_or cz a with ⟨u, q⟩ | q
  · rw [less_cz q] at e; cases e
  · rw [less_no q] at e; exact ⟨q, e⟩
section
variable {P : Program} {w : World} {cz H H' : Hp} {h h' : Heap} {fs : List Addr}
theorem CzK.kind (k : CzK cz) {a : Addr} {o : HO} (e : cz a = some o) : (∀ x, o ≠ .own x) ∧ (∀ xs, o ≠ .tup xs) ∧ (∀ ps, o ≠ .tbl ps) := by
  obtain ⟨oc, rfl, _⟩ := k a o e
  exact ⟨(fun _ z => by cases z), (fun _ z => by cases z), (fun _ z => by cases z)⟩
/-- the known cells are forgotten -/
theorem hok_less (k : CzK cz) (sb : ∀ a o, cz a = some o → H a = some o) (x : HOk P w H h) : HOk P w (less cz H) h := fun a o e => by
  obtain ⟨n, e⟩ := less_some e
  have other : ∀ b u, H b = some u → (∀ oc v, u ≠ .frz oc v) → cz b = none := fun b u q hn => by
    rcases cz_or cz b with ⟨o', r⟩ | r
    · have := sb b o' r
      rw [q] at this
      cases this
      obtain ⟨oc, z, _⟩ := k b _ r
      exact absurd z (hn _ _)
    · exact r
  exact (x a o e).stay (fun _ _ _ q => q) (fun b q => by rw [less_no (other b _ q (fun _ _ z => by cases z))]; exact q) fun b xs q => by rw [less_no (other b _ q (fun _ _ z => by cases z))]; exact q
/-- .. and known again -/
theorem hok_join (k : CzK cz) (n : ∀ a o, cz a = some o → H a = none) (at_ : ∀ a oc u, cz a = some (.frz oc u) → h.get? a = some oc) (x : HOk P w H h) : HOk P w (join cz H) h := fun a o e => by
  rcases cz_or cz a with ⟨u, q⟩ | q
  · rw [join_cz q] at e
    cases e
    obtain ⟨oc, rfl, _⟩ := k a _ q
    exact ⟨at_ a _ _ q, ⟨oc, at_ a _ _ q⟩⟩
  · rw [join_no q] at e
    have other : ∀ b u, H b = some u → cz b = none := fun b u q => by
      rcases cz_or cz b with ⟨o', r⟩ | r
      · rw [n b o' r] at q; cases q
      · exact r
    exact (x a o e).stay (fun _ _ _ q => q) (fun b q => by rw [join_no (other b _ q)]; exact q) fun b xs q => by rw [join_no (other b _ q)]; exact q
/-- a run that knew nothing of the cells left them as they were -/
theorem un_join (k : CzK cz) (sb : ∀ a o, cz a = some o → H a = some o) (nf : ∀ a o, cz a = some o → a ∉ fs) (x : HOk P w H h) (u : Un fs [] (less cz H) H' h h') :
    (∀ a o, cz a = some o → H' a = none) ∧ (∀ a oc v, cz a = some (.frz oc v) → h'.get? a = some oc) ∧ Un fs [] H (join cz H') h h' := by
  have at0 : ∀ a oc v, cz a = some (.frz oc v) → h.get? a = some oc := fun a oc v e => (x a _ (sb a _ e)).1
  have z1 : ∀ a o, cz a = some o → H' a = none := fun a o e => by
    obtain ⟨oc, rfl, _⟩ := k a o e
    exact u.free a oc (at0 a oc _ e) (less_cz e) (by simp)
  have z2 : ∀ a oc v, cz a = some (.frz oc v) → h'.get? a = some oc := fun a oc v e => u.keep a oc (at0 a oc v e) (less_cz e) (nf a _ e) (by simp)
  have no : ∀ b, H b = none → cz b = none := fun b e => by
    rcases cz_or cz b with ⟨o', r⟩ | r
    · rw [sb b o' r] at e; cases e
    · exact r
  refine ⟨z1, z2, fun b o q n hb hx => u.keep b o q (by rw [less_no (no b n)]; exact n) hb hx, fun b o q n hb hx => u.slot b o q (by rw [less_no (no b n)]; exact n) hb hx, fun b o q n hx => ?_, u.there, fun b xs q => ?_, fun b o v q => ?_, fun b ps q => ?_⟩
  · rw [join_no (no b n)]
    exact u.free b o q (by rw [less_no (no b n)]; exact n) hx
  · rcases cz_or cz b with ⟨o', r⟩ | r
    · have := sb b o' r
      rw [q] at this
      cases this
      exact absurd rfl ((k.kind r).2.1 xs)
    · rw [join_no r]
      exact u.tups b xs (by rw [less_no r]; exact q)
  · rcases cz_or cz b with ⟨o', r⟩ | r
    · have := sb b o' r
      rw [q] at this
      cases this
      exact join_cz r
    · rw [join_no r]
      exact u.frzs b o v (by rw [less_no r]; exact q)
  · rcases cz_or cz b with ⟨o', r⟩ | r
    · have := sb b o' r
      rw [q] at this
      cases this
      exact absurd rfl ((k.kind r).2.2 ps)
    · rw [join_no r]
      exact u.tbls b ps (by rw [less_no r]; exact q)
/-- the same where an exception left -/
theorem ub_join {B : Heap} (k : CzK cz) (sb : ∀ a o, cz a = some o → H a = some o) (nf : ∀ a o, cz a = some o → a ∉ fs) (x : HOk P w H h) (u : UB fs (less cz H) H' h B h') :
    (∀ a o, cz a = some o → H' a = none) ∧ (∀ a oc v, cz a = some (.frz oc v) → B.get? a = some oc) ∧ UB fs H (join cz H') h B h' := by
  have at0 : ∀ a oc v, cz a = some (.frz oc v) → h.get? a = some oc := fun a oc v e => (x a _ (sb a _ e)).1
  have z1 : ∀ a o, cz a = some o → H' a = none := fun a o e => by
    obtain ⟨oc, rfl, _⟩ := k a o e
    exact u.free a oc (at0 a oc _ e) (less_cz e)
  have z2 : ∀ a oc v, cz a = some (.frz oc v) → B.get? a = some oc := fun a oc v e => u.keep a oc (at0 a oc v e) (less_cz e) (nf a _ e)
  have no : ∀ b, H b = none → cz b = none := fun b e => by
    rcases cz_or cz b with ⟨o', r⟩ | r
    · rw [sb b o' r] at e; cases e
    · exact r
  refine ⟨z1, z2, fun b o q n hb => u.keep b o q (by rw [less_no (no b n)]; exact n) hb, u.slot, fun b o q n => ?_, u.there, fun b xs q => ?_, fun b o v q => ?_, fun b ps q => ?_⟩
  · rw [join_no (no b n)]
    exact u.free b o q (by rw [less_no (no b n)]; exact n)
  · rcases cz_or cz b with ⟨o', r⟩ | r
    · have := sb b o' r
      rw [q] at this
      cases this
      exact absurd rfl ((k.kind r).2.1 xs)
    · rw [join_no r]
      exact u.tups b xs (by rw [less_no r]; exact q)
  · rcases cz_or cz b with ⟨o', r⟩ | r
    · have := sb b o' r
      rw [q] at this
      cases this
      exact join_cz r
    · rw [join_no r]
      exact u.frzs b o v (by rw [less_no r]; exact q)
  · rcases cz_or cz b with ⟨o', r⟩ | r
    · have := sb b o' r
      rw [q] at this
      cases this
      exact absurd rfl ((k.kind r).2.2 ps)
    · rw [join_no r]
      exact u.tbls b ps (by rw [less_no r]; exact q)
end
structure Rt where
  P : Program
  w : World
  K : PySem.W.Frag
  mg : Str → Option Value
  base : Heap
def rtOf (X : Cx) : Rt := ⟨X.prog, X.w, X.K, X.mg, X.base⟩
/-- the callable at f keeps the promise sp, by at most level k -/
structure CallOk (R : Rt) (k : Nat) (f : Addr) (sp : Sp) : Prop where
  run : ∀ (X : Cx), rtOf X = R → Room k X.A → ∀ (pins : List (Addr × Obj)) (σ : L2.St) (H : Hp) (s : Shared) (Q : VK) (E : XK) (us : List Value) (vs : List V), Inv X pins σ H s → PassesAt (L2.CX X.prog X.w) X σ E → Vals vs us → sp vs H Q E →
    wpAny (model X.prog X.w) X.A (PySem.call (.ref f) us) (EP X pins σ Q) X.xe s
/-- a callable without written arguments at f, known by fz, keeps the promise sp -/
structure LamOk (R : Rt) (k : Nat) (f : Addr) (G : HP) (sp : Sp) : Prop where
  at_ : ∀ (P : Program) (w : World) (H : Hp) (h : Heap), HOk P w H h → G H → PySem.W.FnAt f h
  run : ∀ (X : Cx), rtOf X = R → Room k X.A → ∀ (pins : List (Addr × Obj)) (σ : L2.St) (H : Hp) (s : Shared) (Q : VK) (E : XK), Inv X pins σ H s → G H → PassesAt (L2.CX X.prog X.w) X σ E → sp [] H Q E →
    wpAny (model X.prog X.w) X.A (PySem.call (.ref f) []) (EP X pins σ Q) X.xe s
  env : ∀ (A : Around) (outer : List Env) (s : Shared) (H : Hp) (Q : VK), Room k A → Env0 R.P R.w R.K R.mg R.base A outer s H → G H → sp [] H Q (fun _ _ _ => False) →
    codeAny (model R.P R.w) A (.call (.ref f) ⟨[], []⟩) (CR (L2.CX R.P R.w) outer R.P R.w H s Q fun _ _ _ => False) s
/-- the cells cz and the things fz are known -/
def knows (cz : Hp) (fz : List (Addr × HO)) : HP := fun H => (∀ a o, cz a = some o → H a = some o) ∧ ∀ p ∈ fz, H p.1 = some p.2
/-- the cells of X as they stand, the names' values by σ -/
structure CzOk (X : Cx) (σ : L2.St) (cz : Hp) : Prop where
  k : CzK cz
  cell : ∀ x c, X.env.cells.lookup x = some c → ∃ oc, cz c = some (.frz oc (.own 0)) ∧ ∀ (i : Nat) (v : V), X.N[i]? = some x → σ[i]? = some (some v) → (X.env.scope.names.lookup x = some .cell ∨ X.env.scope.names.lookup x = some .free) → ∃ u, RelV v u ∧ oc.data = .cell (some u)
  len : σ.length = X.N.length
  inj : ∀ x y c, X.env.cells.lookup x = some c → X.env.cells.lookup y = some c → x = y
  has : ∀ x, (X.env.kindOf x = some .cell ∨ X.env.kindOf x = some .free) → ∃ c, X.env.cells.lookup x = some c
section
variable {X : Cx} {σ : L2.St} {cz : Hp} {scope : Scope} {l : List (Str × Int)} {f c' : Addr}
theorem clo_sub {y : Str} {c : Addr} (ok : CzOk X σ cz) (L : LamSc X.N X.env.scope scope l) (e : (cloFrom X.env.cells scope.names []).lookup y = some c) : X.env.cells.lookup y = some c := by
  rcases cloFrom_mem (PySem.mem_of_lookup e) with hm | ⟨h1, h2⟩
  · cases hm
  · have : ∃ c1, X.env.cells.lookup y = some c1 := by
      rcases L.free _ h1 rfl with z | z
      · exact ok.has y (.inl z)
      · exact ok.has y (.inr z)
    obtain ⟨c1, hc⟩ := this
    rw [h2, hc] <;> rfl
theorem clo_has {y : Str} (hl : scope.names.lookup y = some .free) : ∃ c, (cloFrom X.env.cells scope.names []).lookup y = some c :=
  mem_lookup (cloFrom_has (cells := X.env.cells) (acc := []) (PySem.mem_of_lookup hl))
/-- a lambda's body begins -/
theorem lam_begin {A : Around} {outer : List Env} {s1 : Shared} {HZ : Hp} {E : XK} {h₁ : Heap} {tk : Nat} {m : Str → Option Value} (ok : CzOk X σ cz) (L : LamSc X.N X.env.scope scope l) (hk : X.env.globals = mainGlobals) (e0 : Env0 X.prog X.w X.K X.mg X.base A outer s1 HZ) (hd : A.handled = none)
    (sb : ∀ a o, cz a = some o → HZ a = some o) (hns : h₁.Ns s1.heap.objs.size m) (kp : ∀ b o, s1.heap.get? b = some o → h₁.get? b = some o) :
    Inv (LamX.lamCx X A outer s1 (less cz HZ) E scope f c') [] σ (less cz HZ) { s1 with heap := h₁, toks := tk } := by
  have at1 : ∀ a oc v, cz a = some (.frz oc v) → h₁.get? a = some oc := fun a oc v e => kp _ _ (e0.hok a _ (sb a _ e)).1
  have hok : HOk X.prog X.w (less cz HZ) s1.heap := hok_less ok.k sb e0.hok
  have noA : ∀ b : Addr, b ∉ (LamX.lamCx X A outer s1 (less cz HZ) E scope f c').ex := fun b z => absurd (show b ∈ ([] : List Addr) from z) (by simp)
  have nolocal : ∀ y, scope.names.lookup y = some .local → y ∉ X.N := fun y h => L.loc _ (PySem.mem_of_lookup h) rfl
  have nocell : ∀ y, scope.names.lookup y ≠ some .cell := fun y h => L.cell _ (PySem.mem_of_lookup h) rfl
  have ln : ∀ {b : Addr}, HZ b = none → less cz HZ b = none := fun {b} e => by
    rcases cz_or cz b with ⟨o, q⟩ | q
    · exact less_cz q
    · rw [less_no q]; exact e
  have okc : (LamX.lamCx X A outer s1 (less cz HZ) E scope f c').Ok := by
    refine ⟨e0.mod, L.kind, rfl, rfl, Nat.le_refl _, fun y z c e1 e2 => ok.inj y z c (clo_sub ok L e1) (clo_sub ok L e2), fun y hy => ?_, fun y c z _ => ?_, fun _ => hd, Around.frames_deeper e0.frames, .inr ⟨rfl, rfl⟩, fun b z => absurd z (noA b), fun b o e => ⟨(e0.bs b o e).1, ln (e0.bs b o e).2⟩, e0.bsz,
      fun b _ _ => noA b, fun b z => absurd z (noA b), e0.funs, fun b hb => ln (e0.frf b hb)⟩
    · have hy : scope.names.lookup y = some .cell ∨ scope.names.lookup y = some .free := hy
      rcases hy with hy | hy
      · exact absurd hy (nocell y)
      · exact clo_has hy
    · have z : false = true := z
      cases z
  refine ⟨okc, rfl, e0.bare, Un.kept kp, ⟨m, hns, fun i y v e1 e2 e3 => ?_⟩, fun y c e => ?_, ?_, fun y c e => ?_, fun q hq => absurd (show q ∈ ([] : List (Addr × Obj)) ++ [] from hq) (by simp), hok.kept kp, ok.len⟩
  · have e3 : Vis scope y := e3
    rcases e3 with z | z | z
    · exact absurd (List.mem_of_getElem? e1) (nolocal y z)
    · exact absurd z (nocell y)
    · obtain ⟨c, hc⟩ := clo_has (X := X) z
      obtain ⟨oc, q1, q2⟩ := ok.cell y c (clo_sub ok L hc)
      obtain ⟨u, r, d⟩ := q2 i v e1 e2 (L.free _ (PySem.mem_of_lookup z) rfl)
      exact ⟨u, r, .inr ⟨.inr z, c, hc, oc, at1 c oc _ q1, d⟩⟩
  · obtain ⟨oc, q1, _⟩ := ok.cell y c (clo_sub ok L e)
    obtain ⟨oc2, e2, w, d⟩ := ok.k c _ q1
    cases e2
    exact ⟨w, oc, at1 c oc _ q1, d⟩
  · exact ln (e0.hok.fresh (Nat.le_refl _))
  · obtain ⟨oc, q1, _⟩ := ok.cell y c (clo_sub ok L e)
    exact less_cz q1
/-- what a lambda promises, by the reading t of its body at the maker's slots -/
def spLam (t : XK → TE) (σ : L2.St) (cz : Hp) : Sp := fun vs H Q Ex => vs = [] ∧ t (fun cls d H' => (∀ a o, cz a = some o → H' a = none) → Ex cls d (join cz H')) σ (less cz H) fun v H' => (∀ a o, cz a = some o → H' a = none) → Q v (join cz H')
theorem lam_bind0 {qual : Str} {body : Expr} {cl : List (Str × Addr)} {pm cv ctv : Value} : bindArgs (lamFd qual ⟨[], [], none, [], [], none, []⟩ body scope cl .none pm cv ctv) ⟨[], []⟩ = pure [] := rfl
theorem lam_bind1 {qual : Str} {body : Expr} {cl : List (Str × Addr)} {pm cv ctv : Value} {t : Addr} {a : Str} {i : Int} {j : Nat} {p p2 : Pos} (u : Value) : ∃ k, bindArgs (lamFd qual ⟨[], [⟨a, none, p⟩], none, [], [], none, [.Constant (.int i) j p2]⟩ body scope cl (.ref t) pm cv ctv) ⟨[], []⟩ = seqItems? (.ref t) >>= k ∧ k (some [u].toArray) = pure [(a, u)] := by
  refine ⟨_, rfl, ?_⟩
  simp [List.zip, List.lookup]
end
section
variable {X : Cx} {σ : L2.St} {cz : Hp} {scope : Scope} {l : List (Str × Int)} {f : Addr} {fz : List (Addr × HO)} {params : Arguments} {body : Expr} {j : Nat} {t : XK → TE}
theorem cx_join {P : Program} {w : World} {outer : List Env} {H : Hp} {s : Shared} {E : XK} {u : Value} {s' : Shared} (k : CzK cz) (sb : ∀ a o, cz a = some o → H a = some o) (nf : ∀ a o, cz a = some o → a ∉ frs outer) (x : HOk P w H s.heap)
    (c : L2.CX P w outer (less cz H) s (fun cls d H2 => (∀ a o, cz a = some o → H2 a = none) → E cls d (join cz H2)) u s') : L2.CX P w outer H s E u s' := by
  obtain ⟨a, B, H2, cls, d, rfl, fl, hok, ub, na, os, ag, e⟩ := c
  obtain ⟨z1, z2, z3⟩ := ub_join k sb nf x ub
  refine ⟨a, B, join cz H2, cls, d, rfl, fl, hok_join k z1 z2 hok, z3, ?_, os, ag, e z1⟩
  rcases cz_or cz a with ⟨o, q⟩ | q
  · obtain ⟨oc, rfl, _⟩ := k a o q
    have h1 := z2 a oc _ q
    have h2 := fl.2.1
    rw [h1] at h2
    cases h2
  · rw [join_no q]
    exact na
/-- a made lambda keeps its body's promise wherever its cells are known -/
theorem lamOk_of (ok : CzOk X σ cz) (M : MadeBy X params body scope l f fz) (hp : LPar params l) (L : LamSc X.N X.env.scope scope l) (hg : X.env.globals = mainGlobals)
    (hb : ∀ (A : Around) (outer : List Env) (s : Shared) (H : Hp) (E : XK) (f c' : Addr), Room j (A.deeper (LamX.lamEnv X scope s.heap.objs.size f c')) → PE (LamX.lamCx X A outer s H E scope f c') body (t E)) :
    LamOk (rtOf X) (j + 1) f (knows cz fz) (spLam t σ cz) := by
  obtain ⟨dV, pm, c', od, ctv, m1, m2, m3, _⟩ := M
  have rcG : ∀ (A : Around) (outer : List Env) (s : Shared) (H : Hp) (Q : VK) (E : XK), Room (j + 1) A → Env0 X.prog X.w X.K X.mg X.base A outer s H → knows cz fz H → spLam t σ cz [] H Q E →
      codeAny (model X.prog X.w) A (.call (.ref f) ⟨[], []⟩) (CR (L2.CX X.prog X.w) outer X.prog X.w H s Q E) s := fun A outer s H Q E hr e0 G hq => by
    obtain ⟨G1, G2⟩ := G
    obtain ⟨_, hq⟩ := hq
    have of1 : s.heap.get? f = some (lamO (X.env.qual ++ "<lambda>") params body scope (cloFrom X.env.cells scope.names []) dV pm (.ref c') ctv) := (e0.hok f _ (G2 _ m1)).1
    obtain ⟨_, ⟨oc, vs, tk, hoc, hdc, hvc⟩, _, _⟩ := e0.hok c' _ (G2 _ m2)
    have nf : ∀ a o, cz a = some o → a ∉ frs outer := fun a o e hm => by
      have := e0.frf a hm
      rw [G1 a o e] at this
      cases this
    have lim : s.heap.NoLimit := e0.mod.nolimit.keeps fun b o e => (e0.bs b o e).1
    -- the body, in its frame
    have inner : ∀ (binds : List (Str × Value)) (s1 : Shared), s1 = s → (∀ y ∈ binds, scope.names.lookup y.1 = some .local) → wpAny (model X.prog X.w) A.in1
        (newFunctionEnv scope mainGlobals (cloFrom X.env.cells scope.names []) binds ((X.env.qual ++ "<lambda>") ++ ".<locals>.") (some f) (.ref c') none builtinsNs)
        (fun env s₂ => s₂.heap.NoLimit ∧ codeAny (model X.prog X.w) A (.expr body env) (CR (L2.CX X.prog X.w) outer X.prog X.w H s Q E) s₂) (fun e s' => CR (L2.CX X.prog X.w) outer X.prog X.w H s Q E (.error e) s') s1 := by
      intro binds s1 e1 hl
      subst e1
      refine wpAny_newFunctionEnv (fun y hy => L.cell y hy) hl (fun h₁ hns hsb => ⟨lim.fresh _ hsb, ?_⟩) L.kind
      show codeAny _ _ (.expr body (LamX.lamEnv X scope s1.heap.objs.size f c')) _ _
      have kp : ∀ b o, s1.heap.get? b = some o → h₁.get? b = some o := fun b o e => hsb.extBut b o (Nat.ne_of_lt (Heap.lt_size e)) (Heap.get?_push_of_some _ e)
      have J : Inv (LamX.lamCx X A outer s1 (less cz H) (fun cls d H2 => (∀ a o, cz a = some o → H2 a = none) → E cls d (join cz H2)) scope f c') [] σ (less cz H) { s1 with heap := h₁, toks := s1.toks + binds.length } := lam_begin ok L hg e0 hr.hd G1 hns kp
      refine PySem.W.kla_codeExpr (wpAny_mono ((hb _ _ s1 _ _ f c' (hr.deeper _)).run [] _ _ _ _ J hq) (fun v s' hv => ?_) fun e s' he => ?_)
      · obtain ⟨w', H2, J', rv, q⟩ := hv
        obtain ⟨z1, z2, z3⟩ := un_join ok.k G1 nf e0.hok (show Un (frs outer) [] (less cz H) H2 s1.heap s'.heap from J'.base)
        exact ⟨w', join cz H2, J'.os, J'.bare, z3, hok_join ok.k z1 z2 J'.hok, rv, q z1⟩
      · exact wpAny_mono (show wpAny _ _ _ (fun _ s'' => L2.CX X.prog X.w outer (less cz H) s1 (fun cls d H2 => (∀ a o, cz a = some o → H2 a = none) → E cls d (join cz H2)) e s'') (fun e' s'' => L2.CX X.prog X.w outer (less cz H) s1 (fun cls d H2 => (∀ a o, cz a = some o → H2 a = none) → E cls d (join cz H2)) e' s'') s' from he)
          (fun _ s'' q => cx_join ok.k G1 nf e0.hok q) fun _ s'' q => cx_join ok.k G1 nf e0.hok q
    refine PySem.W.kla_callFunE hr.depth of1 rfl L.co L.gen rfl ⟨c', oc, vs, tk, rfl, hoc, hdc, hvc⟩ ?_
    cases hp with
    | p0 =>
      rcases m3 with ⟨_, rfl⟩ | ⟨_, z, _⟩
      · rw [lam_bind0]
        exact wpAny_pure (inner [] s rfl (fun y hy => by cases hy))
      · exact absurd rfl z
    | p1 a i jj p p2 =>
      rcases m3 with ⟨z, _⟩ | ⟨tt, _, rfl, ht⟩
      · cases z
      · obtain ⟨_, its, rv, o, h1, h2, n, h3⟩ := e0.hok tt _ (G2 _ ht)
        cases rv with
        | cons r1 r2 =>
          cases r2
          rename_i u
          obtain ⟨k, e1, e2⟩ := lam_bind1 (scope := scope) (qual := X.env.qual ++ "<lambda>") (body := body) (cl := cloFrom X.env.cells scope.names []) (pm := pm) (cv := .ref c') (ctv := ctv) (t := tt) (a := a) (i := i) (j := jj) (p := p) (p2 := p2) u
          rw [e1]
          refine wpAny_bind (wpAny_seqItems h1 h3 ?_)
          rw [e2]
          refine wpAny_pure (inner [(a, u)] s rfl (fun y hy => ?_))
          rcases List.mem_cons.mp hy with rfl | hy
          · exact (L.par (a, i) List.mem_cons_self).1
          · cases hy
  refine ⟨fun P w H h x G => ?_, fun X' eX hr pins σ' H s Q E I G hx hq => ?_, fun A outer s H Q hr e0 G hq => rcG A outer s H Q _ hr e0 G hq⟩
  · obtain ⟨e, _⟩ := x f _ (G.2 _ m1)
    exact ⟨_, _, _, _, e⟩
  · have hP : X'.prog = X.prog := congrArg Rt.P eX
    have hw : X'.w = X.w := congrArg Rt.w eX
    have hK : X'.K = X.K := congrArg Rt.K eX
    have hmg : X'.mg = X.mg := congrArg Rt.mg eX
    have hbs : X'.base = X.base := congrArg Rt.base eX
    have e0 : Env0 X.prog X.w X.K X.mg X.base X'.A X'.stack s H := by
      have := I.env0
      rw [hP, hw, hK, hmg, hbs] at this
      exact this
    have rc : codeAny (model X'.prog X'.w) X'.A (.call (.ref f) ⟨[], []⟩) (CR (L2.CX X'.prog X'.w) X'.stack X'.prog X'.w H s Q E) s := by
      rw [hP, hw]
      exact rcG _ _ s H Q E hr e0 G hq
    refine wpAny_call (codeAny_mono rc fun r s' hq' => ?_)
    cases r with
    | error e => exact hx pins H s e s' I hq'
    | ok fl =>
      cases fl with
      | ret u => exact I.after hq'
      | next => exact False.elim hq'
      | brk => exact False.elim hq'
      | cont => exact False.elim hq'
structure CallEnv (R : Rt) (k : Nat) (f : Addr) (sp : Sp) : Prop where
  run : ∀ (A : Around) (outer : List Env) (s : Shared) (H : Hp) (us : List Value) (vs : List V) (Q : VK), Room k A → Env0 R.P R.w R.K R.mg R.base A outer s H → Vals vs us → sp vs H Q (fun _ _ _ => False) →
    codeAny (model R.P R.w) A (.call (.ref f) ⟨us, []⟩) (CR (L2.CX R.P R.w) outer R.P R.w H s Q fun _ _ _ => False) s
theorem CallEnv.fn {R : Rt} {i k : Nat} {f : Addr} {fd : FuncData} {ps : List Str} {sp : Sp} (F : FnOk R.P R.w R.K R.mg R.base (L2.CX R.P R.w) i f fd ps sp) (hb : Binds R.K fd ps []) (h : i ≤ k) : CallEnv R k f sp :=
  ⟨fun A outer s H us vs Q hr e0 r q => by
    have hl : us.length = ps.length := by rw [← r.length]; exact F.len _ _ _ _ q
    have b := hb s us (e0.mod.kin.keeps fun b o e => (e0.bs b o e).1) (by rw [List.append_nil]; exact hl)
    rw [List.append_nil] at b
    exact F.run A outer s H ⟨us, []⟩ us vs Q _ (hr.mono h) e0 b r q⟩
/-- the frame's cells stand outside the base and outside the callers' frames -/
def CellsOff (X : Cx) : Prop := ∀ (pins : List (Addr × Obj)) (σ : L2.St) (H : Hp) (s : Shared), Inv X pins σ H s → ∀ (x : Str) (c : Addr), X.env.cells.lookup x = some c → X.base.get? c = none ∧ c ∉ frs X.stack
theorem cellsOff_fn (hfn : ∀ x, X.fn x = true) : CellsOff X := fun pins σ H s I x c hc => by
  have ge := I.ok.cab x c (hfn x) hc
  refine ⟨?_, fun hm => ?_⟩
  · cases e : X.base.get? c with
    | none => rfl
    | some o => exact absurd (Nat.lt_of_lt_of_le (Heap.lt_size (I.ok.bs c o e).1) ge) (Nat.lt_irrefl _)
  · rcases List.mem_cons.mp (I.stkSub c hm) with z | z
    · exact I.cne x c hc z
    · obtain ⟨_, o2, e2, _⟩ := I.ok.funs.mem z
      exact absurd (Nat.lt_of_lt_of_le (Heap.lt_size e2) ge) (Nat.lt_irrefl _)
open Classical in
noncomputable def czOf (X : Cx) (s : Shared) : Hp := fun a => if ∃ x, X.env.cells.lookup x = some a then (s.heap.get? a).map fun o => HO.frz o (.own 0) else none
theorem czOf_some {s : Shared} {a : Addr} {o : HO} (e : czOf X s a = some o) : (∃ x, X.env.cells.lookup x = some a) ∧ ∃ oc, s.heap.get? a = some oc ∧ o = .frz oc (.own 0) := by
  unfold czOf at e
  split at e
  · rename_i hx
    obtain ⟨oc, h1, h2⟩ := Option.map_eq_some_iff.mp e
    exact ⟨hx, oc, h1, h2.symm⟩
  · cases e
theorem czOf_at {s : Shared} {x : Str} {c : Addr} {oc : Obj} (h : X.env.cells.lookup x = some c) (e : s.heap.get? c = some oc) : czOf X s c = some (.frz oc (.own 0)) := by
  unfold czOf
  rw [if_pos ⟨x, h⟩, e] <;> rfl
theorem czOk {pins : List (Addr × Obj)} {H : Hp} {s : Shared} (I : Inv X pins σ H s) : CzOk X σ (czOf X s) := by
  refine ⟨fun a o e => ?_, fun x c hc => ?_, I.len, fun x y c a b => I.ok.inj x y c a b, fun x h => I.ok.has x h⟩
  · obtain ⟨⟨x, hx⟩, oc, h1, rfl⟩ := czOf_some e
    obtain ⟨v, o2, e2, d⟩ := I.cell x a hx
    rw [h1] at e2
    cases e2
    exact ⟨oc, rfl, v, d⟩
  · obtain ⟨v, oc, e2, d⟩ := I.cell x c hc
    refine ⟨oc, czOf_at hc e2, fun i v' h1 h2 h3 => ?_⟩
    obtain ⟨m, hn, hl⟩ := I.loc
    obtain ⟨u, r, lk⟩ := hl i x v' h1 h2 (h3.elim (fun z => .inr (.inl z)) fun z => .inr (.inr z))
    rcases lk with ⟨z, _⟩ | ⟨_, c2, hc2, oc2, e3, d3⟩
    · have z : X.env.scope.names.lookup x = some .local := z
      rcases h3 with h3 | h3 <;> (rw [h3] at z; cases z)
    · rw [hc] at hc2
      cases hc2
      rw [e2] at e3
      cases e3
      exact ⟨u, r, d3⟩
/-- cells that may be made known for a while -/
structure CzAt (X : Cx) (H : Hp) (s : Shared) (cz : Hp) : Prop where
  k : CzK cz
  n : ∀ a o, cz a = some o → H a = none
  off : ∀ a o, cz a = some o → X.base.get? a = none ∧ a ∉ frs X.stack
  at_ : ∀ a oc u, cz a = some (.frz oc u) → s.heap.get? a = some oc
theorem czAt_of {pins : List (Addr × Obj)} {H : Hp} {s : Shared} (hco : CellsOff X) (I : Inv X pins σ H s) : CzAt X H s (czOf X s) := by
  refine ⟨(czOk I).k, fun a o e => ?_, fun a o e => ?_, fun a oc u e => ?_⟩
  · obtain ⟨⟨x, hx⟩, _⟩ := czOf_some e
    exact I.freeC x a hx
  · obtain ⟨⟨x, hx⟩, _⟩ := czOf_some e
    exact hco _ _ _ _ I x a hx
  · obtain ⟨_, oc2, h1, h2⟩ := czOf_some e
    cases h2
    exact h1
/-- the callee runs while the cells are known -/
theorem env_join {pins : List (Addr × Obj)} {H : Hp} {s : Shared} (Z : CzAt X H s cz) (I : Inv X pins σ H s) : Env0 X.prog X.w X.K X.mg X.base X.A X.stack s (join cz H) := by
  have e0 := I.env0
  refine ⟨e0.frames, e0.mod, fun b o e => ⟨(e0.bs b o e).1, ?_⟩, e0.bsz, e0.funs, fun b hb => ?_, hok_join Z.k Z.n Z.at_ I.hok, e0.bare⟩
  · rcases cz_or cz b with ⟨u, q⟩ | q
    · have z := (Z.off b u q).1
      rw [e] at z
      cases z
    · rw [join_no q]
      exact (e0.bs b o e).2
  · rcases cz_or cz b with ⟨u, q⟩ | q
    · exact absurd hb (Z.off b u q).2
    · rw [join_no q]
      exact e0.frf b hb
theorem run_zc {g : Addr} {pins : List (Addr × Obj)} {H : Hp} {s : Shared} {Q : VK} {us : List Value} (Z : CzAt X H s cz) (I : Inv X pins σ H s)
    (F : Env0 X.prog X.w X.K X.mg X.base X.A X.stack s (join cz H) → codeAny (model X.prog X.w) X.A (.call (.ref g) ⟨us, []⟩) (CR (L2.CX X.prog X.w) X.stack X.prog X.w (join cz H) s (fun v H2 => (∀ a o, cz a = some o → H2 a = some o) → Q v (less cz H2)) fun _ _ _ => False) s) :
    wpAny (model X.prog X.w) X.A (PySem.call (.ref g) us) (EP X pins σ Q) X.xe s := by
  have e1 := env_join Z I
  have ck := Z.k
  have cn := Z.n
  have cg := Z.at_
  refine wpAny_call (codeAny_mono (F e1) fun r s' hq => ?_)
  cases r with
  | error e =>
    obtain ⟨_, _, _, _, _, _, _, _, _, _, _, _, z⟩ := (show L2.CX X.prog X.w X.stack _ s (fun _ _ _ => False) e s' from hq)
    exact z.elim
  | ok fl =>
    cases fl with
    | ret u =>
      obtain ⟨v, H2, os, bare, un, hok, rv, q⟩ := hq
      have un : Un (frs X.stack) [] (join cz H) H2 s.heap s'.heap := un
      have kept : ∀ a o, cz a = some o → H2 a = some o := fun a o e => by
        obtain ⟨oc, rfl, _⟩ := ck a o e
        exact un.frzs a oc _ (join_cz e)
      have no : ∀ {b : Addr} {o : HO}, H b = some o → cz b = none := fun {b o} e => by
        rcases cz_or cz b with ⟨u, q⟩ | q
        · rw [cn b u q] at e; cases e
        · exact q
      have hokq : HOk X.prog X.w H2 s'.heap := hok
      refine ⟨v, less cz H2, I.call' (ch := []) os ⟨fun b o e n hb hx => ?_, fun b o e n hb hx => ?_, fun b o e n hx => ?_, un.there, fun b xs e => ?_, fun b o u e => ?_, fun b ps e => ?_⟩ (hok_less ck kept hokq) bare (fun b z => absurd z (by simp)), rv, q kept⟩
      · rcases cz_or cz b with ⟨u, q⟩ | q
        · obtain ⟨oc, rfl, _⟩ := ck b u q
          have := cg b oc _ q
          rw [e] at this
          cases this
          exact (hokq b _ (kept b _ q)).1
        · exact un.keep b o e (by rw [join_no q]; exact n) hb hx
      · rcases cz_or cz b with ⟨u, q⟩ | q
        · exact absurd hb (Z.off b u q).2
        · exact un.slot b o e (by rw [join_no q]; exact n) hb hx
      · rcases cz_or cz b with ⟨u, q⟩ | q
        · exact less_cz q
        · rw [less_no q]
          exact un.free b o e (by rw [join_no q]; exact n) hx
      · rw [less_no (no e)]
        exact un.tups b xs (by rw [join_no (no e)]; exact e)
      · rw [less_no (no e)]
        exact un.frzs b o u (by rw [join_no (no e)]; exact e)
      · rw [less_no (no e)]
        exact un.tbls b ps (by rw [join_no (no e)]; exact e)
    | next => exact False.elim hq
    | brk => exact False.elim hq
    | cont => exact False.elim hq
theorem run_z {k : Nat} {g : Addr} {sp : Sp} {pins : List (Addr × Obj)} {H : Hp} {s : Shared} {Q : VK} {us : List Value} {vs : List V} (F : CallEnv (rtOf X) k g sp) (hr : Room k X.A) (Z : CzAt X H s cz) (I : Inv X pins σ H s) (r : Vals vs us)
    (h : sp vs (join cz H) (fun v H2 => (∀ a o, cz a = some o → H2 a = some o) → Q v (less cz H2)) fun _ _ _ => False) :
    wpAny (model X.prog X.w) X.A (PySem.call (.ref g) us) (EP X pins σ Q) X.xe s := run_zc Z I fun e1 => F.run X.A X.stack s _ us vs _ hr e1 r h
theorem run_zl {k : Nat} {g : Addr} {G : HP} {sp : Sp} {pins : List (Addr × Obj)} {H : Hp} {s : Shared} {Q : VK} (F : LamOk (rtOf X) k g G sp) (hr : Room k X.A) (Z : CzAt X H s cz) (I : Inv X pins σ H s) (hG : G (join cz H))
    (h : sp [] (join cz H) (fun v H2 => (∀ a o, cz a = some o → H2 a = some o) → Q v (less cz H2)) fun _ _ _ => False) :
    wpAny (model X.prog X.w) X.A (PySem.call (.ref g) []) (EP X pins σ Q) X.xe s := run_zc Z I fun e1 => F.env X.A X.stack s _ _ hr e1 hG h
end
/-- the same walk, from a later item on -/
theorem walks_from {prog : Program} {w : World} {A : Around} {I : Addr} {fp wr : List Addr} {n m k : Nat} {P : Nat → Value → Prop} {St : Nat → Heap → Prop} (W : Walks prog w A I fp wr n P St) (e : k + m = n) :
    Walks prog w A I fp wr m (fun i v => P (k + i) v) (fun i h => St (k + i) h) where
  sub := W.sub
  frame := fun i h h' st q => W.frame (k + i) h h' st q
  item := fun i s Q E hi st hQ => W.item (k + i) s Q E (by omega) st fun v h' tk p st' q => hQ v h' tk p st' q
  done := fun s Q E st hQ => W.done s Q E (by rw [← e]; exact st) hQ
  self := fun i s Q E st hQ => W.self (k + i) s Q E st hQ
section
variable {prog : Program} {w : World} {A : Around} {E : Value → Shared → Prop} {s : Shared}
theorem unpack_star {l : Addr} {v : Value} {rest : List Value} {Q : List Value → Shared → Prop} (hh : A.handled = none) (hl : s.heap.IsList l (v :: rest).toArray) (hz : rest.length + 1 ≤ sizeLine)
    (hQ : ∀ (h' : Heap) tk gs, gs = s.gens → (∀ b o, s.heap.get? b = some o → h'.get? b = some o) → Q [v, .ref h'.objs.size] { s with heap := h'.push { cls := .type "list", data := .seq rest.toArray }, toks := tk, gens := gs }) :
    wpAny (model prog w) A (unpackItems (.ref l) 2 (some 1)) Q E s := by
  have hlt : l < s.heap.objs.size := by obtain ⟨o, ho, _⟩ := hl; exact Heap.lt_size ho
  have hne : l ≠ s.heap.objs.size := Nat.ne_of_lt hlt
  unfold unpackItems
  refine wpAny_bind ?_
  unfold notIterableAtAll
  refine wpAny_bind (wpAny_specialOf hl.typeIs slot_list_iter.lookup ?_)
  refine wpAny_pure ?_
  simp only [Bool.false_eq_true, if_false]
  refine wpAny_bind (wpAny_holding (wpAny_pyIter_list hl ?_))
  refine wpAny_bind (wpAny_holding (PySem.W.kun_draw hne 1 0 _ _ ⟨_, Heap.get?_push_size _ rfl, rfl, rfl⟩ (hl.push _) (by simp) fun h₁ hit₁ hs₁ => ?_))
  have e1 : List.take 1 (List.drop 0 (v :: rest).toArray.toList) = [v] := by simp
  rw [e1]
  rw [if_neg (by simp)]
  have hl₁ : h₁.IsList l (v :: rest).toArray := (hl.push _).extBut hs₁.extBut hne
  have kp : ∀ b o, s.heap.get? b = some o → h₁.get? b = some o := fun b o e => hs₁.extBut b o (Nat.ne_of_lt (Heap.lt_size e)) (Heap.get?_push_of_some _ e)
  refine wpAny_bind (wpAny_holding ?_)
  have W := walks_from (k := 1) (m := rest.length) (Walks.list (prog := prog) (w := w) (A := A.in1) hh s.heap.objs.size l hne (v :: rest).toArray) (by simp; omega)
  have big : s.heap.objs.size < h₁.objs.size := by
    obtain ⟨o, ho, _⟩ := hit₁
    exact Heap.lt_size ho
  refine wpAny_collect_iter (.inr (.inr (.inl rfl))) W.toS (fun i s' st => ?_) ⟨hit₁, hl₁⟩ (fun b hb => ?_) (by simp) (fun s' acc mv ha => ?_) (by omega)
  · obtain ⟨⟨o, ho, hc, _⟩, _⟩ := st
    exact ⟨o, ho, hc⟩
  · rcases List.mem_cons.mp hb with rfl | hb
    · exact big
    · obtain rfl := List.mem_singleton.mp hb
      exact Nat.lt_trans hlt big
  · have ea : acc.toList = rest := by
      obtain ⟨a1, a2⟩ := ha
      apply List.ext_getElem?
      intro i
      by_cases hi : i < rest.length
      · have hi' : i < acc.size := by omega
        have : (v :: rest).toArray[1 + i]? = some acc[i] := a2 i acc[i] (by simp [hi'])
        have e : (v :: rest).toArray[1 + i]? = rest[i]? := by simp [Nat.add_comm 1 i]
        rw [e] at this
        rw [this]
        simp [hi']
      · rw [List.getElem?_eq_none_iff.mpr (by simp; omega), List.getElem?_eq_none_iff.mpr (by omega)]
    rw [ea]
    show wpAny _ _ (if rest.length < 0 then _ else _) _ _ _
    rw [if_neg (by omega)]
    refine wpAny_bind ?_
    have e2 : List.take (rest.length - (2 - 1 - 1)) rest = rest := by simp
    rw [e2]
    obtain ⟨h2, g2, d2, t2, o2⟩ := s'
    have m1 := mv.heap
    have m2 := mv.gens
    have m3 := mv.drawn
    have m4 := mv.os
    dsimp only at m1 m2 m3 m4
    refine wpAny_newList ?_ (by omega)
    refine wpAny_pure ?_
    have e3 : List.drop (rest.length - (2 - 1 - 1)) rest = [] := by simp
    rw [e3]
    have := hQ h2 t2 g2 m2 fun b o e => m1 b o (fun hb => by
      obtain rfl := List.mem_singleton.mp hb
      exact Nat.lt_irrefl _ (Heap.lt_size e)) (kp b o e)
    rw [m3, m4]
    exact this
end
section
variable {X : Cx} {σ : L2.St}
theorem putK_le_len (kvs : List (Key × V)) (k : Key) (v : V) : (putK kvs k v).length ≤ kvs.length + 1 := by
  unfold putK
  split <;> simp
theorem m_update : MtR X "dict.update" (fun x vs H Q => ∃ a b kvs more, x = .ref a ∧ vs = [.ref b] ∧ a ≠ b ∧ H a = some (.dK kvs) ∧ H b = some (.dK more) ∧ kvs.length + more.length ≤ sizeLine ∧ Q .non (upd H a (.dK (mergeK kvs more)))) := by
  intro pins s σ H x xs v us Q I rx rs q
  obtain ⟨a, b, kvs, more, rfl, rfl, hne, ea, eb, hz, q⟩ := q
  obtain rfl : v = Value.ref a := rx
  obtain ⟨u, rfl, ru⟩ := Vals.one rs
  obtain rfl : u = Value.ref b := ru
  obtain ⟨z, hd, vs, rel, dd⟩ := dk_of I.hok ea
  obtain ⟨z2, hd2, ws, rel2, dd2⟩ := dk_of I.hok eb
  refine call_meetsIn PySem.F.slot_dict_update dd.typeIs PySem.F.entry_dict_update (PySem.F.args_dict_update_2 _ _) (meets_dict_update (mixKind X.prog X.w) a b hne hd2)
    ⟨vs, ws, dd, dd2, by rw [← rel.length, ← rel2.length]; exact hz, fun h' hmm _ hs => ?_⟩
  have he : ∃ q, h'.get? a = some q := let ⟨q, _, _, hq, _⟩ := hmm; ⟨q, hq⟩
  have len : ∀ (more kvs : List (Key × V)), (mergeK kvs more).length ≤ kvs.length + more.length := by
    intro more
    induction more with
    | nil => intro kvs; exact Nat.le_refl _
    | cons p r ih =>
      intro kvs
      have h1 := ih (putK kvs p.1 p.2)
      have h2 := putK_le_len kvs p.1 p.2
      show (mergeK (putK kvs p.1 p.2) r).length ≤ _
      simp only [List.length_cons]
      omega
  exact ⟨.non, _, d_write (t' := s.toks) I (by rw [ea]; exact True.intro) hs he (dk_new (Nat.le_trans (len more kvs) hz) hd (rel2.merge rel) hmm), rfl, q⟩
end
/-- the class at C has its name as it was made -/
structure NameC (K : PySem.W.Frag) (C : Addr) (nm : Str) : Prop where
  rd : PySem.W.readsIn K C (.type "type") = true
  at_ : PySem.W.findCls K (.ref C) (.type "type") "__name__" = some (.get (.builtin "getset_descriptor.__get__") (.builtin "type.__name__") (.ref C) (.type "type"))
  kept : ∃ o tk, K.lookup C = some o ∧ o.slots[2]? = some (some (.str nm tk))
section
open PySem.W PySem.Calls Builtin Builtin.ObjectAttr Builtin.Getset_descriptor
variable {prog : Program} {w : World} {A : Around} {E : Value → Shared → Prop} {s : Shared} {K : Frag} {R : Result → Shared → Prop}
theorem dga_ref (d tp : Value) (C : Addr) : descrGetArgs ⟨[d, .ref C, tp], []⟩ = pure (d, some (.ref C), given tp) := by kernel_rfl
theorem name_get {C : Addr} {tp v : Value} {o : Obj} (X : K.In s.heap) (ht : typeIn K (.ref C) = some (.type "type")) (l : K.lookup C = some o) (hs : o.slots[2]? = some (some v)) (h : R (.ok (.ret v)) s) :
    codeAny (model prog w) A (.call (.builtin "getset_descriptor.__get__") ⟨[.builtin "type.__name__", .ref C, tp], []⟩) R s := by
  obtain ⟨hh, g, dr, t, os⟩ := s
  have L0 : Looks (model prog w) hh (typeOf (.ref C)) (.type "type") := looks_typeIn X ht
  have L1 : Looks (model prog w) hh (isSubtype (.type "type") (.type "type")) true := Looks.of_pure (by rw [isSubtype_type]; kernel_rfl)
  refine codeAny_call_builtin KF.slot_gs.plain KF.entry_gs (KF.slot_gs.check _ _ _ _ _ _ _ _ ktyn_type (KF.args_gs _ _ _) ?_)
  unfold Builtin.«getset_descriptor.__get__» descrGet
  rw [dga_ref]
  refine wpAny_bind (wpAny_pure ?_)
  unfold descrGetter descrCheckInstance descrNameAndClass isInstance
  simp only [ktyn_owner]
  repeat lk
  refine ⟨Code.quiet_builtin _ (by decide +kernel), codeAny_builtin ktyn_entry ?_⟩
  unfold Builtin.«type.__name__»
  dsimp only
  unfold Builtin.keptObject PySem.slotAt
  refine wpAny_bind (wpAny_bind (wpAny_loadPart (X _ _ l) (wpAny_pure ?_)))
  rw [hs]
  exact wpAny_pure h
theorem cls_name {C : Addr} {nm : Str} {expr : Bool} {Q : Value → Shared → Prop} (X : K.In s.heap) (N : NameC K C nm) (h : ∀ tk u, Q (.str nm tk) { s with toks := u }) : wpAny (model prog w) A (getAttr (.ref C) "__name__" expr) Q E s := by
  obtain ⟨o, tk, l, hs⟩ := N.kept
  have ht : typeIn K (.ref C) = some (.type "type") := by
    have := N.rd
    simp only [readsIn, Bool.and_eq_true, beq_iff_eq] at this
    exact this.1.1.1.2
  refine cls_bind X N.rd N.at_ (wpAny_call (name_get (s := { s with toks := s.toks + 1 }) X ht l hs ?_))
  exact handed_on rfl (h _ _)
/-- e.__class__ of an exception of an own class -/
theorem exc_cls {x D : Addr} {ox : Obj} {od : Option Obj} {expr : Bool} {Q : Value → Shared → Prop} (C : ExcC K D) (X : K.In s.heap) (I : InstAt s.heap x ox D od) (h : Q (.ref D) { s with toks := s.toks + 1 }) : wpAny (model prog w) A (getAttr (.ref x) "__class__" expr) Q E s := by
  have hf : findObj K D od "__class__" = some (.bind (.builtin "getset_descriptor.__get__") (.builtin "object.__class__")) := by
    obtain ⟨cd, hc⟩ := Option.isSome_iff_exists.mp (show (clsIn K D).isSome = true by obtain ⟨cd, hc, _⟩ := any_some C.hd; rw [hc]; rfl)
    unfold findObj
    rw [hc, Option.bind_some, C.ha, Option.bind_some]
    simp [C.hn, C.ht]
  obtain ⟨hp, g, d, t, os⟩ := s
  have L0 := I.type (M := model prog w)
  have L1 := looks_findIn (M := model prog w) X C.hg
  have L2 := looks_findIn (M := model prog w) X C.hk
  have L3 := looks_find (M := model prog w) X I hf
  have sub : Looks (model prog w) hp (isInstance (.ref x) (.type "BaseException")) true := L0.andThen (looks_subIn X C.hs)
  have hx0 : (expr && onTheHeap (Value.builtin "BaseException.__getattribute__")) = false := by cases expr <;> rfl
  have hx2 : (Value.builtin "BaseException.__getattribute__" == Value.builtin "object.__getattribute__") = false := by decide +kernel
  have hx1 : (onTheHeap (Value.ref D) && Value.builtin "BaseException.__getattribute__" == Value.builtin "object.__getattribute__") = false := by rw [hx2]; rfl
  unfold getAttr getAttrBy
  refine wpAny_bind (wpAny_mkText (wpAny_holding (wpAny_bind (L0.at (wpAny_bind (L1.at ?_))))))
  show wpAny _ _ (if (onTheHeap (Value.ref D) && Value.builtin "BaseException.__getattribute__" == Value.builtin "object.__getattribute__") = true then _ else _) _ _ _
  rw [hx1, if_neg Bool.false_ne_true]
  unfold getAttrByItsOwn hookBefore
  refine wpAny_bind ?_
  rw [if_pos (show onTheHeap (Value.ref D) = true from rfl)]
  refine L2.at ?_
  refine wpAny_bind (wpAny_attempt (wpAny_holding ?_))
  unfold callGetattribute
  rw [hx0, if_neg Bool.false_ne_true]
  unfold boundAndCalled
  rw [PySem.F.excAttr_ValueError.ga.bind (.ref x)]
  refine wpAny_bind (wpAny_pure ?_)
  show wpAny _ _ (call (.builtin "BaseException.__getattribute__") [.ref x, .str "__class__" t]) _ _ _
  refine wpAny_call (codeAny_call_builtin PySem.F.excAttr_ValueError.ga.plain PySem.F.entry_bexc_ga ?_)
  refine @check_slot (model prog w) _ _ ⟨hp, g, d, t + 1, os⟩ "BaseException.__getattribute__" "BaseException" "__getattribute__" (.ref x) [.str "__class__" t] [] _ (by decide +kernel) (by decide +kernel) sub (PySem.F.args_bexc_ga (.ref x) (.str "__class__" t)) ?_
  unfold Builtin.«object.__getattribute__»
  refine wpAny_bind (wpAny_of_eq (a := ((Value.ref x : Value), [Value.str "__class__" t])) (by first | rfl | (simp only [slotArgs]; rfl)) ?_)
  refine wpAny_bind (wpAny_pure (wpAny_bind (L0.at (wpAny_bind (L3.at ?_)))))
  show wpAny _ _ (holding [Value.builtin "object.__class__"] (call (.builtin "getset_descriptor.__get__") [.builtin "object.__class__", .ref x, .ref D]) >>= ret) _ _ _
  refine wpAny_bind (wpAny_holding (wpAny_call (class_get (s := ⟨hp, g, d, t + 1, os⟩) (ox := ox) (od := od) X I C.hm ?_)))
  refine wpAny_pure ?_
  first
    | exact wpAny_pure h
    | exact handed_on rfl h
    | exact wpAny_pure (handed_on rfl h)
    | exact wpAny_bind (wpAny_pure (handed_on rfl h))
/-- the same where isinstance asks -/
theorem exc_cls? {x D : Addr} {ox : Obj} {od : Option Obj} {Q : Option Value → Shared → Prop} (C : ExcC K D) (X : K.In s.heap) (I : InstAt s.heap x ox D od) (h : Q (some (.ref D)) { s with toks := s.toks + 1 }) : wpAny (model prog w) A (getAttr? (.ref x) "__class__") Q E s := by
  have hf : findObj K D od "__class__" = some (.bind (.builtin "getset_descriptor.__get__") (.builtin "object.__class__")) := by
    obtain ⟨cd, hc⟩ := Option.isSome_iff_exists.mp (show (clsIn K D).isSome = true by obtain ⟨cd, hc, _⟩ := any_some C.hd; rw [hc]; rfl)
    unfold findObj
    rw [hc, Option.bind_some, C.ha, Option.bind_some]
    simp [C.hn, C.ht]
  obtain ⟨hp, g, d, t, os⟩ := s
  have L0 := I.type (M := model prog w)
  have L1 := looks_findIn (M := model prog w) X C.hg
  have L2 := looks_findIn (M := model prog w) X C.hk
  have L3 := looks_find (M := model prog w) X I hf
  have sub : Looks (model prog w) hp (isInstance (.ref x) (.type "BaseException")) true := L0.andThen (looks_subIn X C.hs)
  have hx0 : (false && onTheHeap (Value.builtin "BaseException.__getattribute__")) = false := rfl
  have hx2 : (Value.builtin "BaseException.__getattribute__" == Value.builtin "object.__getattribute__") = false := by decide +kernel
  have hx1 : (onTheHeap (Value.ref D) && Value.builtin "BaseException.__getattribute__" == Value.builtin "object.__getattribute__") = false := by rw [hx2]; rfl
  unfold getAttr? getAttrBy? getAttrBy
  refine wpAny_bind (wpAny_mkText (wpAny_bind (wpAny_attempt (wpAny_holding (wpAny_bind (L0.at (wpAny_bind (L1.at ?_))))))))
  show wpAny _ _ (if (onTheHeap (Value.ref D) && Value.builtin "BaseException.__getattribute__" == Value.builtin "object.__getattribute__") = true then _ else _) _ _ _
  rw [hx1, if_neg Bool.false_ne_true]
  unfold getAttrByItsOwn hookBefore
  refine wpAny_bind ?_
  rw [if_pos (show onTheHeap (Value.ref D) = true from rfl)]
  refine L2.at ?_
  refine wpAny_bind (wpAny_attempt (wpAny_holding ?_))
  unfold callGetattribute
  rw [hx0, if_neg Bool.false_ne_true]
  unfold boundAndCalled
  rw [PySem.F.excAttr_ValueError.ga.bind (.ref x)]
  refine wpAny_bind (wpAny_pure ?_)
  show wpAny _ _ (call (.builtin "BaseException.__getattribute__") [.ref x, .str "__class__" t]) _ _ _
  refine wpAny_call (codeAny_call_builtin PySem.F.excAttr_ValueError.ga.plain PySem.F.entry_bexc_ga ?_)
  refine @check_slot (model prog w) _ _ ⟨hp, g, d, t + 1, os⟩ "BaseException.__getattribute__" "BaseException" "__getattribute__" (.ref x) [.str "__class__" t] [] _ (by decide +kernel) (by decide +kernel) sub (PySem.F.args_bexc_ga (.ref x) (.str "__class__" t)) ?_
  unfold Builtin.«object.__getattribute__»
  refine wpAny_bind (wpAny_of_eq (a := ((Value.ref x : Value), [Value.str "__class__" t])) (by first | rfl | (simp only [slotArgs]; rfl)) ?_)
  refine wpAny_bind (wpAny_pure (wpAny_bind (L0.at (wpAny_bind (L3.at ?_)))))
  show wpAny _ _ (holding [Value.builtin "object.__class__"] (call (.builtin "getset_descriptor.__get__") [.builtin "object.__class__", .ref x, .ref D]) >>= ret) _ _ _
  refine wpAny_bind (wpAny_holding (wpAny_call (class_get (s := ⟨hp, g, d, t + 1, os⟩) (ox := ox) (od := od) X I C.hm ?_)))
  refine wpAny_pure ?_
  refine handed_on rfl ?_
  first
    | exact wpAny_pure h
    | exact wpAny_pure (wpAny_pure h)
    | exact wpAny_bind (wpAny_pure (wpAny_pure h))
    | exact wpAny_pure (wpAny_bind (wpAny_pure (wpAny_pure h)))
end
section
variable {X : Cx}
/-- e.__class__.__name__ of a refusal that is being made -/
def tClsName (K : PySem.W.Frag) (te : TE) : TE := fun σ H Q => te σ H fun x H1 => ∃ a C nm, x = .ref a ∧ H1 a = some (exo a C none) ∧ ExcC K C ∧ NameC K C nm ∧ Q (.str nm) H1
theorem pe_clsname {e : Expr} {te : TE} {p1 p2 : Pos} (he : PE X e te) (hb : attributeBase e "__class__" X.env (eval e X.env) = eval e X.env := by rfl) : PE X (.Attribute (.Attribute e "__class__" p1) "__name__" p2) (tClsName X.K te) := by
  refine ⟨fun pins s σ H Q I h => ?_⟩
  refine attr_of rfl (attr_of hb (thn (he.run pins s σ H _ I h) fun u s1 ⟨x, H1, I1, r1, a, C, nm, ex, ea, ec, nc, q⟩ => ?_))
  subst ex
  obtain rfl : u = Value.ref a := r1
  obtain ⟨t1, ho⟩ := exo_at I1.hok ea
  exact exc_cls (od := none) ec I1.kIn ⟨ho, rfl, rfl, trivial⟩ (cls_name (s := { s1 with toks := s1.toks + 1 }) I1.kIn nc fun tk u => ⟨.str nm, H1, I1.kept (t' := u) fun _ _ z => z, ⟨tk, rfl⟩, q⟩)
end
/-- a refusal's __init__: its kind is told -/
def spErrInit (K : PySem.W.Frag) : Sp := fun vs H Q _ => ∃ a C nm v, vs = [.ref a, v] ∧ H a = some (exo a C none) ∧ OexC K C ∧ ExcC K C ∧ NameC K C nm ∧ PySem.W.findIn K (.ref C) "kind" = some none ∧
  ∀ dx, H dx = none → dx ≠ a → Q .non (upd (upd H dx (exd dx [("kind", .str nm)])) a (exo a C (some dx)))
theorem fn_errInit {P : Program} {w : World} {K : PySem.W.Frag} {mg : Str → Option Value} {base : Heap} {qual : Str} {st : Stmt} {f : Addr} {fd : FuncData} {dvs : List V} {p1 p2 p3 p4 p5 p6 p7 p8 p9 p10 p11 p12 : Pos}
    (F : FunD K "__init__" qual (defArgs st) (defBody st) (defScope st) dvs [] f fd) (S : FnScope ["self", "why"] ["self", "why"] (defScope st)) (hg : List.lookup ("ValueError" : Str) (defScope st).names = some NameKind.globalImplicit) (hm : mg "ValueError" = none)
    (hbody : defBody st = [.Expr (.Call (.Attribute (.Name "ValueError" p1) "__init__" p2) [.Name "self" p3, .Name "why" p4] [] p5) p6, .Assign [.Attribute (.Name "self" p7) "kind" p8] (.Attribute (.Attribute (.Name "self" p9) "__class__" p10) "__name__" p11) p12])
    (hc : ∀ env : Env, ∃ pl : Sem Bool, eval (.Call (.Attribute (.Name "ValueError" p1) "__init__" p2) [.Name "self" p3, .Name "why" p4] [] p5) env = (do
      let ov ← eval (.Name "ValueError" p1) env
      standAt p2.atName
      let (f, first) ← holding [ov] (getMethod ov "__init__" pl)
      callWith p5 f first (backTo p5 (starEach [.Name "self" p3, .Name "why" p4] env)) (backToKw p5 (keywordEach [] env))))
    (vV : PySem.W.findCls K (.type "ValueError") (.type "type") "__init__" = some (.val (.builtin "ValueError.__init__"))) : FnOk P w K mg base (L2.CX P w) 1 f fd ["self", "why"] (spErrInit K) := by
  refine FunD.ok (k := 0) F S (fun vs H Q E h => by obtain ⟨_, _, _, _, rfl, _⟩ := h; rfl) fun cdv A outer s H vs Q E hr h => ?_
  obtain ⟨a, C, nm, v, rfl, ea, oex, exc, nam, kin, q⟩ := h
  rw [hbody]
  have vs1 : ∀ x ∈ (["self", "why"] : List Str), Vis (defScope st) x := fun x hx => (S.par x hx).elim .inl fun z => .inr (.inl z)
  have v0 : Vis (defScope st) "self" := vs1 _ List.mem_cons_self
  have v1 : Vis (defScope st) "why" := vs1 _ (List.mem_cons_of_mem _ List.mem_cons_self)
  obtain ⟨pl, hc⟩ := hc (cxOf (L2.CX P w) P w K mg base ["self", "why"] qual (defScope st) f cdv A outer s H E).env
  refine ⟨_, pss_cons (ps_expr (pe_veinit (pl := pl) hg hm vV (pa_cons (pe_var (i := 0) rfl v0) (pa_cons (pe_var (i := 1) rfl v1) pa_nil)) hc)) (pss_one (ps_ost (pe_var (i := 0) rfl v0) (pe_clsname (pe_var (i := 0) rfl v0)))), ?_⟩
  refine ⟨_, rfl, _, rfl, a, C, [v], rfl, (show (1 : Nat) ≤ 1000 by decide), oex, ea, ?_⟩
  refine ⟨_, rfl, a, C, nm, rfl, ea, exc, nam, ?_⟩
  exact ⟨_, rfl, a, C, rfl, oex, kin, .inl ⟨ea, fun dx n ne => q dx n ne⟩⟩
/-- a class of refusals by this __init__, without one of its own -/
structure ErrOk (P : Program) (w : World) (K : PySem.W.Frag) (mg : Str → Option Value) (base : Heap) (C : Addr) (nm : Str) : Prop where
  oex : OexC K C
  exc : ExcC K C
  nam : NameC K C nm
  kin : PySem.W.findIn K (.ref C) "kind" = some none
  ini : ∃ fI fd, PySem.W.findIn K (.ref C) "__init__" = some (some (.ref fI)) ∧ PySem.W.typeIn K (.ref fI) = some (.type "function") ∧ FnOk P w K mg base (L2.CX P w) 1 fI fd ["self", "why"] (spErrInit K) ∧ Binds K fd ["self", "why"] []
section
variable {X : Cx} {W : WX} {x m : Str} {j : Nat} {p p2 p3 pos : Pos}
/-- raise C('..') -/
theorem ps_err {C : Addr} {nm : Str} (hc : X.calm = true) (tk : Takes X W) (E : ErrOk X.prog X.w X.K X.mg X.base C nm) (hr : Room 2 X.A) (hg : Gl X x) (hm : X.mg x = some (.ref C)) (hd : (x == ("__debug__" : Str)) = false) :
    PS X (.Raise (some (.Call (.Name x p) [.Constant (.str m) j p2] [] p3)) none pos) (fun _ σ H => ∀ d, H d = none → W (.ref C) (some d) σ (upd H d (.xd [("kind", .str nm)]))) := by
  obtain ⟨fI, fd, iC, tI, F1, hb⟩ := E.ini
  have ps : Passes (L2.CX X.prog X.w) X (fun _ _ _ => False) := fun pins σ H s e s' I c => by
    obtain ⟨_, _, _, _, _, _, _, _, _, _, _, _, z⟩ := c
    exact z.elim
  refine ⟨fun pins s σ H D I h => (ps_raise hc tk (pmk_oex E.oex iC tI F1 hr hb (dvs := []) .nil ps hg hm (pa_cons pe_str pa_nil) hd)).run pins s σ H D I ?_⟩
  · refine ⟨(show (1 : Nat) ≤ 1000 by decide), fun a ha => ⟨a, C, nm, .str m, rfl, upd_same, E.oex, E.exc, E.nam, E.kin, fun dx hn hne => ⟨rfl, dx, [("kind", .str nm)], upd_same, ?_, ?_, ?_⟩⟩⟩
    · rw [upd_ne hne, upd_same]
    · rw [upd_ne hne] at hn
      exact hn
    · rw [upd_ne hne] at hn
      have e : upd (del (upd (upd (upd H a (exo a C none)) dx (exd dx [("kind", .str nm)])) a (exo a C (some dx))) a) dx (.xd [("kind", .str nm)]) = upd H dx (.xd [("kind", .str nm)]) := by
        funext b
        by_cases h1 : b = dx
        · subst h1
          rw [upd_same, upd_same]
        · rw [upd_ne h1, upd_ne h1]
          by_cases h2 : b = a
          · subst h2
            rw [del_same]
            exact ha.symm
          · rw [del_ne h2, upd_ne h2, upd_ne h1, upd_ne h2]
      exact e ▸ h dx hn
end
section
open PySem.W
theorem kitx_d {K : Frag} {x D dd : Addr} {ox : Obj} (C : ExcC K D) : KitX K (.ref x) (.ref D) (fun h => ∃ od, InstAt h x ox D (some od)) where
  ty := fun _ _ _ I => by
    obtain ⟨_, I⟩ := I
    exact I.type
  it := fun _ _ X _ => by
    obtain ⟨cdD, hcD, _⟩ := any_some C.hd
    unfold clsIn at hcD
    split at hcD
    · rename_i c' d' cd' sl' ho
      intro A' Q' E' s' k q
      unfold isType loadHead
      exact wpAny_bind (wpAny_loadPart (k _ _ (X _ _ ho)) (wpAny_pure q))
    · cases hcD
  ne := fun h tp dd its n sl X htp => by
    obtain ⟨cdD, hcD, _⟩ := any_some C.hd
    refine Bool.eq_false_iff.mpr fun q => ?_
    have e : D = tp := Value.ref.inj (beq_iff_eq.mp q)
    subst e
    unfold clsIn at hcD
    split at hcD
    · rename_i c' d' cd' sl' ho
      have z := (X _ _ ho).symm.trans htp
      cases z
    · cases hcD
  ca := fun X I k => by
    obtain ⟨_, I⟩ := I
    exact exc_cls? C X I k
end
/-- the one name of such a lambda -/
def lpar1 (A : Arguments) : Option Str := match A with
  | ⟨[], [⟨a, none, _⟩], none, [], [], none, []⟩ => some a
  | _ => none
theorem lpar1_ok {A : Arguments} {a : Str} (h : lpar1 A = some a) : ∃ p, A = ⟨[], [⟨a, none, p⟩], none, [], [], none, []⟩ := by
  unfold lpar1 at h
  split at h
  · cases h; exact ⟨_, rfl⟩
  · cases h
def lamB1 (N : List Str) (sc scope : Scope) (a : Str) : Bool :=
  decide (scope.kind = .function) && !scope.isCoroutine && !scope.isGenerator && decide (scope.names.lookup a = some .local) &&
  (scope.names.all fun y => !decide (y.2 = .cell) && (!decide (y.2 = .local) || decide (y.1 = a)) && (!decide (y.2 = .free) || decide (sc.names.lookup y.1 = some .cell) || decide (sc.names.lookup y.1 = some .free)))
structure LamSc1 (sc scope : Scope) (a : Str) : Prop where
  kind : scope.kind = .function
  co : scope.isCoroutine = false
  gen : scope.isGenerator = false
  par : scope.names.lookup a = some .local
  cell : ∀ y ∈ scope.names, y.2 ≠ .cell
  loc : ∀ y ∈ scope.names, y.2 = .local → y.1 = a
  free : ∀ y ∈ scope.names, y.2 = .free → sc.names.lookup y.1 = some .cell ∨ sc.names.lookup y.1 = some .free
theorem lamB1_ok {N : List Str} {sc scope : Scope} {a : Str} (h : lamB1 N sc scope a = true) : LamSc1 sc scope a := by
  unfold lamB1 at h
  simp only [Bool.and_eq_true, Bool.or_eq_true, Bool.not_eq_true', decide_eq_true_eq, decide_eq_false_iff_not, List.all_eq_true] at h
  obtain ⟨⟨⟨⟨h1, h2⟩, h3⟩, h4⟩, h5⟩ := h
  refine ⟨h1, h2, h3, h4, fun y hy => (h5 y hy).1.1, fun y hy e => ?_, fun y hy e => ?_⟩
  · rcases (h5 y hy).1.2 with z | z
    · exact absurd e z
    · exact z
  · rcases (h5 y hy).2 with (z | z) | z
    · exact absurd e z
    · exact .inl z
    · exact .inr z
section
variable {X : Cx} {σ : L2.St} {cz : Hp} {scope : Scope} {f c' : Addr} {a : Str} {i : Nat} {x : V} {u : Value}
theorem LamSc1.has (L : LamSc1 X.env.scope scope a) (ok : X.Ok) : ∀ y ∈ scope.names, y.2 = .free → ∃ c, X.env.cells.lookup y.1 = some c := fun y hy e => by
  rcases L.free y hy e with k | k
  · exact ok.has _ (.inl k)
  · exact ok.has _ (.inr k)
theorem clo_sub1 {y : Str} {c : Addr} (ok : CzOk X σ cz) (L : LamSc1 X.env.scope scope a) (e : (cloFrom X.env.cells scope.names []).lookup y = some c) : X.env.cells.lookup y = some c := by
  rcases cloFrom_mem (PySem.mem_of_lookup e) with hm | ⟨h1, h2⟩
  · cases hm
  · have : ∃ c1, X.env.cells.lookup y = some c1 := by
      rcases L.free _ h1 rfl with z | z
      · exact ok.has y (.inl z)
      · exact ok.has y (.inr z)
    obtain ⟨c1, hc⟩ := this
    rw [h2, hc] <;> rfl
/-- the body begins: its one name stands in slot i -/
theorem lam_begin1 {A : Around} {outer : List Env} {s1 : Shared} {HZ : Hp} {E : XK} {h₁ : Heap} {tk : Nat} {m : Str → Option Value} (ok : CzOk X σ cz) (L : LamSc1 X.env.scope scope a) (nd : X.N.Nodup) (hi : X.N[i]? = some a) (e0 : Env0 X.prog X.w X.K X.mg X.base A outer s1 HZ) (hd : A.handled = none)
    (sb : ∀ a o, cz a = some o → HZ a = some o) (hns : h₁.Ns s1.heap.objs.size m) (hm : m a = some u) (rx : RelV x u) (kp : ∀ b o, s1.heap.get? b = some o → h₁.get? b = some o) :
    Inv (LamX.lamCx X A outer s1 (less cz HZ) E scope f c') [] (σ.set i (some x)) (less cz HZ) { s1 with heap := h₁, toks := tk } := by
  have at1 : ∀ a oc v, cz a = some (.frz oc v) → h₁.get? a = some oc := fun a oc v e => kp _ _ (e0.hok a _ (sb a _ e)).1
  have hok : HOk X.prog X.w (less cz HZ) s1.heap := hok_less ok.k sb e0.hok
  have noA : ∀ b : Addr, b ∉ (LamX.lamCx X A outer s1 (less cz HZ) E scope f c').ex := fun b z => absurd (show b ∈ ([] : List Addr) from z) (by simp)
  have nolocal : ∀ y, scope.names.lookup y = some .local → y = a := fun y h => L.loc _ (PySem.mem_of_lookup h) rfl
  have nocell : ∀ y, scope.names.lookup y ≠ some .cell := fun y h => L.cell _ (PySem.mem_of_lookup h) rfl
  have ln : ∀ {b : Addr}, HZ b = none → less cz HZ b = none := fun {b} e => by
    rcases cz_or cz b with ⟨o, q⟩ | q
    · exact less_cz q
    · rw [less_no q]; exact e
  have okc : (LamX.lamCx X A outer s1 (less cz HZ) E scope f c').Ok := by
    refine ⟨e0.mod, L.kind, rfl, rfl, Nat.le_refl _, fun y z c e1 e2 => ok.inj y z c (clo_sub1 ok L e1) (clo_sub1 ok L e2), fun y hy => ?_, fun y c z _ => ?_, fun _ => hd, Around.frames_deeper e0.frames, .inr ⟨rfl, rfl⟩, fun b z => absurd z (noA b), fun b o e => ⟨(e0.bs b o e).1, ln (e0.bs b o e).2⟩, e0.bsz,
      fun b _ _ => noA b, fun b z => absurd z (noA b), e0.funs, fun b hb => ln (e0.frf b hb)⟩
    · have hy : scope.names.lookup y = some .cell ∨ scope.names.lookup y = some .free := hy
      rcases hy with hy | hy
      · exact absurd hy (nocell y)
      · exact clo_has hy
    · have z : false = true := z
      cases z
  refine ⟨okc, rfl, e0.bare, Un.kept kp, ⟨m, hns, fun j y v e1 e2 e3 => ?_⟩, fun y c e => ?_, ?_, fun y c e => ?_, fun q hq => absurd (show q ∈ ([] : List (Addr × Obj)) ++ [] from hq) (by simp), hok.kept kp, ?_⟩
  · have e3 : Vis scope y := e3
    have e1 : X.N[j]? = some y := e1
    rcases e3 with z | z | z
    · obtain rfl := nolocal y z
      obtain rfl := nodup_ix nd e1 hi
      have hl : j < σ.length := by
        rw [ok.len]
        exact (List.getElem?_eq_some_iff.mp hi).1
      rw [List.getElem?_set_self hl] at e2
      cases e2
      exact ⟨u, rx, .inl ⟨z, hm⟩⟩
    · exact absurd z (nocell y)
    · obtain ⟨c, hc⟩ := clo_has (X := X) z
      obtain ⟨oc, q1, q2⟩ := ok.cell y c (clo_sub1 ok L hc)
      have hji : j ≠ i := by
        intro e
        subst e
        rw [hi] at e1
        cases e1
        have z' : scope.names.lookup a = some .free := z
        rw [L.par] at z'
        cases z'
      rw [List.getElem?_set_ne (Ne.symm hji)] at e2
      obtain ⟨w, r, d⟩ := q2 j v e1 e2 (L.free _ (PySem.mem_of_lookup z) rfl)
      exact ⟨w, r, .inr ⟨.inr z, c, hc, oc, at1 c oc _ q1, d⟩⟩
  · obtain ⟨oc, q1, _⟩ := ok.cell y c (clo_sub1 ok L e)
    obtain ⟨oc2, e2, w, d⟩ := ok.k c _ q1
    cases e2
    exact ⟨w, oc, at1 c oc _ q1, d⟩
  · exact ln (e0.hok.fresh (Nat.le_refl _))
  · obtain ⟨oc, q1, _⟩ := ok.cell y c (clo_sub1 ok L e)
    exact less_cz q1
  · show (σ.set i (some x)).length = X.N.length
    rw [List.length_set]
    exact ok.len
/-- what the lambda at f promises, by the reading t of its body at the maker's slots -/
def spKey (t : TE) (σ : L2.St) (i : Nat) (cz : Hp) (fz : List (Addr × HO)) : Sp := fun vs H Q _ => ∃ x, vs = [x] ∧ knows cz fz H ∧ t (σ.set i (some x)) (less cz H) fun v H' => (∀ a o, cz a = some o → H' a = none) → Q v (join cz H')
theorem lam_bindP {qual : Str} {body : Expr} {cl : List (Str × Addr)} {pm cv ctv : Value} {p : Pos} : bindArgs (lamFd qual ⟨[], [⟨a, none, p⟩], none, [], [], none, []⟩ body scope cl .none pm cv ctv) ⟨[u], []⟩ = pure [(a, u)] := by
  have e : seqItems? Value.none = pure none := rfl
  unfold bindArgs
  simp [lamFd, e]
end
section
variable {X : Cx} {σ : L2.St} {cz : Hp} {scope : Scope} {f : Addr} {fz : List (Addr × HO)} {body : Expr} {j i : Nat} {t : TE} {a : Str} {p : Pos}
/-- such a lambda keeps its body's promise wherever its cells are known -/
theorem keyEnv_of (ok : CzOk X σ cz) (M : MadeBy X ⟨[], [⟨a, none, p⟩], none, [], [], none, []⟩ body scope [] f fz) (L : LamSc1 X.env.scope scope a) (nd : X.N.Nodup) (hi : X.N[i]? = some a) (hg : X.env.globals = mainGlobals)
    (hb : ∀ (A : Around) (outer : List Env) (s : Shared) (H : Hp) (E : XK) (f c' : Addr), Room j (A.deeper (LamX.lamEnv X scope s.heap.objs.size f c')) → PE (LamX.lamCx X A outer s H E scope f c') body t) :
    CallEnv (rtOf X) (j + 1) f (spKey t σ i cz fz) := by
  obtain ⟨dV, pm, c', od, ctv, m1, m2, m3, _⟩ := M
  refine ⟨fun A outer s H us vs Q hr e0 rv hq => ?_⟩
  obtain ⟨x, rfl, ⟨G1, G2⟩, hq⟩ := hq
  have e0 : Env0 X.prog X.w X.K X.mg X.base A outer s H := e0
  obtain ⟨u, rfl, rx⟩ := Vals.one rv
  have of1 : s.heap.get? f = some (lamO (X.env.qual ++ "<lambda>") ⟨[], [⟨a, none, p⟩], none, [], [], none, []⟩ body scope (cloFrom X.env.cells scope.names []) dV pm (.ref c') ctv) := (e0.hok f _ (G2 _ m1)).1
  obtain ⟨_, ⟨oc, ws, tk, hoc, hdc, hvc⟩, _, _⟩ := e0.hok c' _ (G2 _ m2)
  have nf : ∀ a o, cz a = some o → a ∉ frs outer := fun a o e hm => by
    have := e0.frf a hm
    rw [G1 a o e] at this
    cases this
  have lim : s.heap.NoLimit := e0.mod.nolimit.keeps fun b o e => (e0.bs b o e).1
  have rc : codeAny (model X.prog X.w) A (.call (.ref f) ⟨[u], []⟩) (CR (L2.CX X.prog X.w) outer X.prog X.w H s Q fun _ _ _ => False) s := by
    refine PySem.W.kla_callFunE hr.depth of1 rfl L.co L.gen rfl ⟨c', oc, ws, tk, rfl, hoc, hdc, hvc⟩ ?_
    rcases m3 with ⟨_, rfl⟩ | ⟨_, z, _⟩
    · rw [lam_bindP]
      refine wpAny_pure (wpAny_newFunctionEnv (fun y hy => L.cell y hy) (fun y hy => ?_) (fun h₁ hns hsb => ⟨lim.fresh _ hsb, ?_⟩) L.kind)
      · rcases List.mem_cons.mp hy with rfl | hy
        · exact L.par
        · cases hy
      show codeAny _ _ (.expr body (LamX.lamEnv X scope s.heap.objs.size f c')) _ _
      have kp : ∀ b o, s.heap.get? b = some o → h₁.get? b = some o := fun b o e => hsb.extBut b o (Nat.ne_of_lt (Heap.lt_size e)) (Heap.get?_push_of_some _ e)
      have J : Inv (LamX.lamCx X A outer s (less cz H) (fun _ _ _ => False) scope f c') [] (σ.set i (some x)) (less cz H) { s with heap := h₁, toks := s.toks + [(a, u)].length } :=
        lam_begin1 ok L nd hi e0 hr.hd G1 hns (by simp [List.lookup]) rx kp
      refine PySem.W.kla_codeExpr (wpAny_mono ((hb _ _ s _ _ f c' (hr.deeper _)).run [] _ _ _ _ J hq) (fun v s' hv => ?_) fun e s' he => ?_)
      · obtain ⟨w', H2, J', rv, q⟩ := hv
        obtain ⟨z1, z2, z3⟩ := un_join ok.k G1 nf e0.hok (show Un (frs outer) [] (less cz H) H2 s.heap s'.heap from J'.base)
        exact ⟨w', join cz H2, J'.os, J'.bare, z3, hok_join ok.k z1 z2 J'.hok, rv, q z1⟩
      · refine wpAny_mono (show wpAny _ _ _ (fun _ s'' => L2.CX X.prog X.w outer (less cz H) s (fun _ _ _ => False) e s'') (fun e' s'' => L2.CX X.prog X.w outer (less cz H) s (fun _ _ _ => False) e' s'') s' from he) (fun _ s'' q => ?_) fun _ s'' q => ?_
        all_goals
          obtain ⟨_, _, _, _, _, _, _, _, _, _, _, _, z⟩ := q
          exact z.elim
    · exact absurd rfl z
  exact rc
/-- the lambda is made -/
theorem pe_lamP {pos : Pos} {T : List (Addr × Str)} {c P : Addr} (L : LamSc1 X.env.scope scope a) (TB : LamX.TabB X.base X.mg c P) (hcode : X.env.code = .ref c) (hm : (P, X.env.qual ++ "<lambda>") ∈ T)
    (hu : ∀ p ∈ T, p.1 = P → p.2 = X.env.qual ++ "<lambda>") :
    PE X (.Lambda ⟨[], [⟨a, none, p⟩], none, [], [], none, []⟩ body scope pos) (fun _ H Q => tabsOk T H ∧ ∀ f fz H1, KeepT T H H1 → tabsOk T H1 → (∀ p ∈ fz, H1 p.1 = some p.2) → MadeBy X ⟨[], [⟨a, none, p⟩], none, [], [], none, []⟩ body scope [] f fz → Q (.ref f) H1) := by
  refine ⟨fun pins s σ H Q I h => ?_⟩
  obtain ⟨hT, h⟩ := h
  rw [arm_eval_Lambda]
  show wpAny _ _ (do let dv ← evalAll []; let kdv ← holding dv (evalAllOpt []); makeFunction "<lambda>" (X.env.qual ++ "<lambda>") _ (.expr body) scope X.env dv kdv [] pos pos.line) _ _ _
  refine wpAny_bind (wpAny_pure (wpAny_bind (wpAny_holding (wpAny_pure ?_))))
  rw [makeFunction_eq]
  simp only [List.zip_nil_right, List.filterMap_nil, List.isEmpty_nil, if_true, pure_bind]
  obtain ⟨ps, hP, ht, ha⟩ := hT _ hm
  have hP : H P = some (.tbl ps) := hP
  refine lam_tail (mg := X.mg) (c := c) (P := P) (ps := ps) (closure_ok (L.has I.ok)) I.ok.glob (I.mod.glob.keeps I.bk) hcode (TB.code.keeps I.bk) (I.hok P _ hP) ht TB.gP (TB.bm.keeps I.bk) fun cv ctv h' tk e => ?_
  obtain ⟨c', od, H2, rfl, I2, k2, t2, e1, e2⟩ := lam_end (o := lamO (X.env.qual ++ "<lambda>") ⟨[], [⟨a, none, p⟩], none, [], [], none, []⟩ body scope (cloFrom X.env.cells scope.names []) .none ((X.mg "__name__").getD .none) cv ctv) I hm hu hT hP ht e rfl
  refine ⟨.ref h'.objs.size, H2, I2, rfl, h _ [(h'.objs.size, HO.frz (lamO (X.env.qual ++ "<lambda>") ⟨[], [⟨a, none, p⟩], none, [], [], none, []⟩ body scope (cloFrom X.env.cells scope.names []) .none ((X.mg "__name__").getD .none) (.ref c') ctv) uT), (c', HO.frz od (LamX.CodeO c' (X.env.qual ++ "<lambda>")))] H2 k2 t2 (fun q hq => ?_)
    ⟨.none, (X.mg "__name__").getD .none, c', od, ctv, List.mem_cons_self, List.mem_cons_of_mem _ List.mem_cons_self, .inl ⟨rfl, rfl⟩, fun q hq => ?_⟩⟩
  · simp only [List.mem_cons, List.not_mem_nil, or_false] at hq
    rcases hq with rfl | rfl
    · exact e1
    · exact e2
  · simp only [List.mem_cons, List.not_mem_nil, or_false] at hq
    rcases hq with rfl | rfl <;> rfl
end
/-- keys: numbers, truths, tuples of such -/
inductive KD (H : Hp) : V → PyData → Prop where
  | int (i : Int) : KD H (.int i) (.int i)
  | bl (b : Bool) : KD H (.bl b) (.bool b)
  | tup {a : Addr} {vs : List V} {ds : List PyData} (e : H a = some (.tup vs)) (hl : vs.length = ds.length) (h : ∀ (i : Nat) v d, vs[i]? = some v → ds[i]? = some d → KD H v d) : KD H (.ref a) (.tuple ds)
theorem reads_all {h : Heap} : ∀ {us : List Value} {ds : List PyData}, us.length = ds.length → (∀ (i : Nat) u d, us[i]? = some u → ds[i]? = some d → Reads h u d []) → ReadsAll h us ds []
  | [], [], _, _ => .nil
  | u :: us, d :: ds, hl, f => ReadsAll.cons (as := []) (bs := []) (f 0 u d rfl rfl) (reads_all (by simpa using hl) fun i u' d' h1 h2 => f (i + 1) u' d' (by simpa using h1) (by simpa using h2))
  | [], _ :: _, hl, _ => by cases hl
  | _ :: _, [], hl, _ => by cases hl
theorem vals_at : ∀ {xs : List V} {us : List Value} {i : Nat} {u : Value}, Vals xs us → us[i]? = some u → ∃ x, xs[i]? = some x ∧ RelV x u
  | _, _, _, _, .nil, e => by simp at e
  | _, _, 0, _, .cons r _, e => by simp at e; subst e; exact ⟨_, rfl, r⟩
  | _, _, i + 1, _, .cons _ t, e => by
    obtain ⟨x, h1, h2⟩ := vals_at (i := i) t (by simpa using e)
    exact ⟨x, by simpa using h1, h2⟩
theorem KD.reads {P : Program} {w : World} {H : Hp} {h : Heap} (hok : HOk P w H h) {v : V} {d : PyData} (x : KD H v d) : ∀ {u : Value}, RelV v u → Reads h u d [] := by
  induction x with
  | int i =>
    intro u r
    obtain ⟨t, rfl⟩ := r
    exact .int i t
  | bl b =>
    intro u r
    obtain rfl : u = .bool b := r
    exact .bool b
  | tup e hl _ ih =>
    intro u r
    cases r
    obtain ⟨_, its, rv, o, h1, h2, n, h3⟩ := hok _ _ e
    refine .tuple h1 h2 h3 (reads_all (by rw [← hl, rv.length]) fun i u d e1 e2 => ?_)
    have e1 : its[i]? = some u := by simpa using e1
    obtain ⟨x, h4, h5⟩ := vals_at rv e1
    exact ih i x d h4 e2 h5
/-- the same frame, within sorted -/
abbrev cin (X : Cx) : Cx := { X with A := X.A.in1.in1, xe := fun _ _ => False }
section
variable {X : Cx} {pins : List (Addr × Obj)} {σ : L2.St} {H : Hp} {s : Shared}
theorem inv_cin (I : Inv X pins σ H s) : Inv (cin X) pins σ H s :=
  ⟨⟨I.ok.mod, I.ok.kind, I.ok.glob, I.ok.blt, I.ok.above, I.ok.inj, I.ok.has, I.ok.cab, I.ok.hd, I.ok.frames, I.ok.stk, I.ok.exf, I.ok.bs, I.ok.bsz, I.ok.noex, I.ok.exfs, I.ok.funs, I.ok.frf⟩, I.os, I.bare, I.base, I.loc, I.cell, I.free, I.freeC, I.pin, I.hok, I.len⟩
theorem inv_cout (I : Inv (cin X) pins σ H s) : Inv X pins σ H s :=
  ⟨⟨I.ok.mod, I.ok.kind, I.ok.glob, I.ok.blt, I.ok.above, I.ok.inj, I.ok.has, I.ok.cab, I.ok.hd, I.ok.frames, I.ok.stk, I.ok.exf, I.ok.bs, I.ok.bsz, I.ok.noex, I.ok.exfs, I.ok.funs, I.ok.frf⟩, I.os, I.bare, I.base, I.loc, I.cell, I.free, I.freeC, I.pin, I.hok, I.len⟩
/-- a record of ours that isn't tracked, as FpOk, without the heap -/
structure Own (X : Cx) (pins : List (Addr × Obj)) (b : Addr) : Prop where
  nl : b ≠ X.env.locals
  nf : b ∉ X.fs
  ab : b ∈ X.ex ∨ X.s_0.heap.objs.size ≤ b
  nc : ∀ x c, X.env.cells.lookup x = some c → c ≠ b
  np : ∀ p ∈ X.pn ++ pins, p.1 ≠ b
theorem Own.of (I : Inv X pins σ H s) {b : Addr} (hb : s.heap.objs.size ≤ b) : Own X pins b := by
  obtain ⟨_, h1, h2, h3, h4, h5⟩ := I.fpOk hb (H' := fun _ => none) rfl
  exact ⟨h1, h2, h3, h4, h5⟩
/-- such a record changes -/
theorem Own.turn {b : Addr} {h' : Heap} {t' : Nat} (O : Own X pins b) (I : Inv X pins σ H s) (n : H b = none) (k : ∀ c o, c ≠ b → s.heap.get? c = some o → h'.get? c = some o) : Inv X pins σ H { s with heap := h', toks := t' } :=
  I.turned k n O.nl O.ab O.nc O.np
theorem Own.pin2 {b c : Addr} {ob oc : Obj} (O : Own X pins b) (O2 : Own X pins c) (I : Inv X pins σ H s) (n : H b = none) (n2 : H c = none) (eb : s.heap.get? b = some ob) (ec : s.heap.get? c = some oc) (db : ∀ v, ob.data ≠ .cell v) (dc : ∀ v, oc.data ≠ .cell v) :
    Inv X (pins ++ [(b, ob), (c, oc)]) σ H s := I.pins_of fun p hp => by
  rcases List.mem_append.mp hp with hp | hp
  · exact I.pin p (List.mem_append_right _ hp)
  · simp only [List.mem_cons, List.not_mem_nil, or_false] at hp
    rcases hp with rfl | rfl
    · exact ⟨eb, n, O.nl, O.nf, db⟩
    · exact ⟨ec, n2, O2.nl, O2.nf, dc⟩
theorem upd_same_but (h : Heap) (a : Addr) (f : Obj → Obj) : ∀ c o, c ≠ a → h.get? c = some o → (h.update a f).get? c = some o := fun c o n e => ((Heap.SameBut.update h a f).2 c n).trans e
theorem vals_snoc {x : V} {u : Value} (r : RelV x u) : ∀ {xs : List V} {us : List Value}, Vals xs us → Vals (xs ++ [x]) (us ++ [u])
  | _, _, .nil => .cons r .nil
  | _, _, .cons a t => .cons a (vals_snoc r t)
theorem each_of {α β : Type} {R : α → β → Prop} : ∀ {xs : List α} {ys : List β}, xs.length = ys.length → (∀ (i : Nat) x y, xs[i]? = some x → ys[i]? = some y → R x y) → PySem.W.EachIs R xs ys
  | [], [], _, _ => .nil
  | x :: xs, y :: ys, hl, f => .cons (f 0 x y rfl rfl) (each_of (by simpa using hl) fun i a b h1 h2 => f (i + 1) a b (by simpa using h1) (by simpa using h2))
  | [], _ :: _, hl, _ => by cases hl
  | _ :: _, [], hl, _ => by cases hl
theorem vals_each {R : Value → V → Prop} : ∀ {xs : List V} {us : List Value}, PySem.W.EachIs (fun u x => RelV x u) us xs → Vals xs us
  | _, _, .nil => .nil
  | _, _, .cons r t => .cons r (vals_each (R := R) t)
theorem each_vals : ∀ {xs : List V} {us : List Value}, Vals xs us → PySem.W.EachIs (fun u x => RelV x u) us xs
  | _, _, .nil => .nil
  | _, _, .cons r t => .cons r (each_vals t)
theorem freed_none (h : Heap) (a : Addr) : (h.update a fun o => { o with data := .freed }).get? a = none := by
  have e : (h.update a fun o => { o with data := .freed }).objs[a]? = (h.objs[a]?).map fun o => { o with data := .freed } := Heap.objs_update_self _ _ _
  unfold Heap.get?
  rw [e]
  cases h.objs[a]? with
  | none => rfl
  | some o => rfl
theorem seq_nocell {xs : Array Value} {n : Nat} : ∀ v, (seqObj "list" xs n).data ≠ .cell v := fun v z => by cases z
/-- the keys are made, one behind the other, and the items sorted by them -/
theorem sort_keys {f : Addr} {sp : Hp → Sp} {k : Nat} {vs : List Value} {xs : List V} {kd : V → PyData} {kS a : Addr} {e1 : Nat} {P : PySem.Fin → Shared → Prop} {E : Value → Shared → Prop} (G : Nat → List V → Hp → Prop)
    (I : Inv (cin X) pins σ H s) (hfn : ∀ x, X.fn x = true) (hr : Room k (cin X).A) (F : ∀ cz, CzOk X σ cz → CallEnv (rtOf X) k f (sp cz)) (rv : Vals xs vs) (hZ : vs.length ≤ sizeLine) (hal : PySem.W.AllAlike (xs.map kd)) (hsk : PySem.W.Sortable (xs.map kd)) (hu : ∀ d, d ∈ xs.map kd → (cin X).A.units + d.depth < cLine)
    (Ok : Own (cin X) pins kS) (Oa : Own (cin X) pins a) (hk : H kS = none) (ha : H a = none) (nk : s.heap.get? kS = some (seqObj "list" #[] 0)) (na : s.heap.get? a = some (seqObj "list" #[] e1)) (hka : kS ≠ a) (g0 : G 0 [] H)
    (turn : ∀ t x acc Hc cz, xs[t]? = some x → acc.length = t → G t acc Hc → CzK cz → (∀ a o, cz a = some o → Hc a = none) → sp cz [x] (join cz Hc) (fun y H2 => (∀ a o, cz a = some o → H2 a = some o) → G (t + 1) (acc ++ [y]) (less cz H2)) fun _ _ _ => False)
    (gk : ∀ acc Hn, G xs.length acc Hn → ∀ (i : Nat) v x, acc[i]? = some v → xs[i]? = some x → KD Hn v (kd x))
    (fin : ∀ acc Hn s3, G xs.length acc Hn → Hn a = none → Inv X pins σ (upd Hn a (.lst (xs.mergeSort (PySem.W.dataLe false kd)))) s3 → P (.done (.ret .none)) s3) :
    wpAny (model X.prog X.w) (cin X).A (ksk_rest a (.ref f) false vs.toArray e1 (.ref kS)) P E s := by
  have hlen := rv.length
  unfold ksk_rest
  refine wpAny_bind (wpAny_rule ?_)
  rw [show (forIn vs.toArray PUnit.unit : (Value → PUnit → Sem (ForInStep PUnit)) → Sem PUnit) = forIn vs PUnit.unit from by funext b; rw [List.forIn_toArray]]
  refine wpAny_bind (ksk_fold (fun t s' => ∃ acc Hc kA e, Inv (cin X) pins σ Hc s' ∧ Hc kS = none ∧ Hc a = none ∧ s'.heap.get? kS = some (seqObj "list" kA e) ∧ s'.heap.get? a = some (seqObj "list" #[] e1) ∧ Vals acc kA.toList ∧ acc.length = t ∧ G t acc Hc) vs 0 s
    ⟨[], H, #[], 0, I, hk, ha, nk, na, .nil, rfl, g0⟩ (fun t u s' hx hI => ?_) fun s' hI => ?_)
  · obtain ⟨acc, Hc, kA, e, I', hk', ha', nk', na', rA, hl, g⟩ := hI
    simp only [Nat.zero_add] at hl g ⊢
    obtain ⟨x, hx', rx⟩ := vals_at rv hx
    have htl : t < vs.length := (List.getElem?_eq_some_iff.mp hx).1
    have I2 := Own.pin2 Ok Oa I' hk' ha' nk' na' seq_nocell seq_nocell
    have cn : ∀ b o, czOf X s' b = some o → Hc b = none := fun b o e => by
      obtain ⟨⟨y, hy⟩, _⟩ := czOf_some e
      exact I'.freeC y b hy
    have czk := czOk (inv_cout I')
    have q := turn t x acc Hc (czOf X s') hx' hl g czk.k cn
    refine wpAny_bind (wpAny_attempt (wpAny_mono (run_z (X := cin X) (F (czOf X s') czk) hr (czAt_of (X := cin X) (cellsOff_fn hfn) I2) I2 (.cons rx .nil) q) (fun v s2 hv => ?_) fun _ _ z => False.elim z))
    obtain ⟨y, H2, I3, ry, g2⟩ := hv
    have p1 := I3.pin (kS, seqObj "list" kA e) (by simp)
    have p2 := I3.pin (a, seqObj "list" #[] e1) (by simp)
    try dsimp only
    obtain ⟨c2, hc2⟩ : ∃ c2, (s2.heap.update kS (Obj.mapSeq (·.push v))).get? kS = some (seqObj "list" (kA.push v) c2) := ⟨_, get?_update_seq p1.1 (·.push v)⟩
    have hs1 : kA.size = t := by rw [← hl, rA.length, Array.length_toList]
    refine wpAny_bind (listUpdate_at p1.1 rfl ?_ (by omega) (by rw [Array.size_push]; omega))
    refine wpAny_pure ⟨rfl, acc ++ [y], H2, kA.push v, c2, ?_, p1.2.1, p2.2.1, hc2, (upd_same_but _ _ _ a _ hka.symm p2.1), ?_, by simp [hl], g2⟩
    · exact Ok.turn (t' := s2.toks) I3.unpinned p1.2.1 (upd_same_but _ _ _)
    · have e2 : (kA.push v).toList = kA.toList ++ [v] := by simp
      rw [e2]
      exact vals_snoc ry rA
  · obtain ⟨acc, Hn, kA, e, I', hk', ha', nk', na', rA, hl, g⟩ := hI
    simp only [Nat.zero_add] at hl g
    rw [← hlen] at hl g
    have hsz : kA.size = vs.length := by rw [← hlen, ← hl, rA.length, Array.length_toList]
    try dsimp only
    refine wpAny_bind (listItems_at nk' rfl ?_)
    -- the keys as data
    have rd : PySem.W.EachIs (fun v d => ∃ as, Reads s'.heap v d as) kA.toList (xs.map kd) := by
      refine each_of (by rw [← rA.length, hl]; simp) fun i u d e1 e2 => ?_
      obtain ⟨y, h1, h2⟩ := vals_at rA e1
      rw [List.getElem?_map] at e2
      obtain ⟨x, h3, h4⟩ := Option.map_eq_some_iff.mp e2
      subst h4
      exact ⟨[], (gk acc Hn g i y x h1 h3).reads I'.hok h2⟩
    -- the heap without the two records
    generalize hh1 : s'.heap.update kS (fun o => { o with data := .freed }) = h1
    have k1 : ∀ c o, c ≠ kS → s'.heap.get? c = some o → h1.get? c = some o := by rw [← hh1]; exact upd_same_but _ _ _
    have n1 : h1.get? kS = none := by rw [← hh1]; exact freed_none _ _
    have I1 : Inv (cin X) pins σ Hn { s' with heap := h1, toks := s'.toks } := Ok.turn I' hk' k1
    have kp : PySem.W.KeepsBut a h1 s'.heap := fun c o hc e => by
      by_cases z : c = kS
      · rw [z, n1] at e; cases e
      · rw [← hh1, (Heap.SameBut.update s'.heap kS _).2 c z] at e
        exact e
    have hal' := hal
    refine PySem.W.keyH_end (b := false) (κ := PySem.W.dataKind s'.heap (xs.map kd)) (h₁ := h1) kp n1 nk' na' hka (PySem.W.SortsAt.data rd hal hsk hu) hsz hZ fun h3 tk3 c k3 n3 => ?_
    have KO : PySem.W.KeyedOut false (xs.map kd) vs (PySem.W.sortVals (PySem.W.dataKind s'.heap (xs.map kd)) false kA.toList vs) := ⟨s'.heap, kA.toList, hal, rfl, rd⟩
    have eo := PySem.W.keyedOut_each kd KO (each_vals rv)
    have rO := vals_each (R := fun _ _ => True) eo
    generalize hh2 : h1.update a (fun o => { o with data := .freed }) = h2
    have k2 : ∀ c o, c ≠ a → h1.get? c = some o → h2.get? c = some o := by rw [← hh2]; exact upd_same_but _ _ _
    have n2 : h2.get? a = none := by rw [← hh2]; exact freed_none _ _
    have I2 : Inv (cin X) pins σ Hn { s' with heap := h2, toks := s'.toks } := Oa.turn (s := { s' with heap := h1, toks := s'.toks }) I1 ha' k2
    refine fin acc Hn _ g ha' (inv_cout (Inv.laidN (s := { s' with heap := h2, toks := s'.toks }) (t' := tk3) I2 (fun b u e => ?_) n2 ha' ?_))
    · have hb : b ≠ a := fun z => by
        have e : h2.get? b = some u := e
        rw [z, n2] at e
        cases e
      refine k3 b u hb ?_
      have e : h2.get? b = some u := e
      rw [← hh2, (Heap.SameBut.update h1 a _).2 b hb] at e
      exact e
    · exact ⟨by rw [List.length_mergeSort, hlen]; exact hZ, _, c, rO, n3⟩
end
/-- behind what is sorted by a key; tb: the key's reading, i: its name's slot -/
def srtEnd (K : PySem.W.Frag) (T : List (Addr × Str)) (tb : TE) (i : Nat) (σ : L2.St) (Q : VK) (x : V) (H1 : Hp) : Prop := ∃ (p : Addr) (xs : List V) (kd : V → PyData), x = .ref p ∧ PySem.W.AllAlike (xs.map kd) ∧ PySem.W.Sortable (xs.map kd) ∧ (∀ d, d ∈ xs.map kd → d.depth ≤ 8) ∧ tabsOk T H1 ∧
  ∀ (fz : List (Addr × HO)) H2, KeepT T H1 H2 → tabsOk T H2 → (∀ q ∈ fz, H2 q.1 = some q.2) → (∀ q ∈ fz, fixO q.2 = true) → SqL K H2 p xs ∧ ∃ G : Nat → List V → Hp → Prop, G 0 [] H2 ∧
    (∀ t x acc Hc, xs[t]? = some x → acc.length = t → G t acc Hc → (∀ q ∈ fz, Hc q.1 = some q.2) ∧ ∀ Qt : VK, (∀ y H', G (t + 1) (acc ++ [y]) H' → Qt y H') → tb (σ.set i (some x)) Hc Qt) ∧
    ∀ acc Hn, G xs.length acc Hn → (∀ (i : Nat) v x, acc[i]? = some v → xs[i]? = some x → KD Hn v (kd x)) ∧ ∀ q, Hn q = none → Q (.ref q) (upd Hn q (.lst (xs.mergeSort (PySem.W.dataLe false kd))))
/-- sorted(xs, key=lambda ..): the reading -/
def tSrt (K : PySem.W.Frag) (T : List (Addr × Str)) (te tb : TE) (i : Nat) : TE := fun σ H Q => te σ H fun x H1 => srtEnd K T tb i σ Q x H1
theorem less_join' {cz H : Hp} (n : ∀ a o, cz a = some o → H a = none) : less cz (join cz H) = H := by
  funext a
  rcases cz_or cz a with ⟨o, q⟩ | q
  · rw [less_cz q, n a o q]
  · rw [less_no q, join_no q]
section
variable {X : Cx} {scope : Scope} {e body : Expr} {te tb : TE} {a x : Str} {p lp pos kpos p2 : Pos} {i : Nat} {T : List (Addr × Str)} {c P : Addr}
theorem pe_srt (hc : X.calm = true) (hfn : ∀ x, X.fn x = true) (nd : X.N.Nodup) (hr : Room 3 X.A) (hg : Gl X "sorted") (hm0 : X.mg "sorted" = none) (he : PE X e te) (hns : starEach [e] X.env = (false, eval e X.env) :: starEach [] X.env) (hst : (backTo pos (starEach [e] X.env)).any (·.1) = false)
    (L : LamSc1 X.env.scope scope a) (hi : X.N[i]? = some a) (TB : LamX.TabB X.base X.mg c P) (hcode : X.env.code = .ref c) (hm : (P, X.env.qual ++ "<lambda>") ∈ T) (hu : ∀ p ∈ T, p.1 = P → p.2 = X.env.qual ++ "<lambda>") (hgl : X.env.globals = mainGlobals)
    (hb : ∀ (A : Around) (outer : List Env) (s : Shared) (H : Hp) (E : XK) (f c' : Addr), Room 0 (A.deeper (LamX.lamEnv X scope s.heap.objs.size f c')) → PE (LamX.lamCx X A outer s H E scope f c') body tb) :
    PE X (.Call (.Name "sorted" p) [e] [⟨some "key", .Lambda ⟨[], [⟨a, none, p2⟩], none, [], [], none, []⟩ body scope lp, kpos⟩] pos) (tSrt X.K T te tb i) := by
  have hv : bootBuiltins "sorted" = some (.builtin "sorted") := by decide +kernel
  refine ⟨fun pins s σ H Q I h => ?_⟩
  refine wpAny_Call_Name_kw (ld_blt I hg hm0 hv ?_ (by decide +kernel) (by decide +kernel))
  refine PyProof.Rows.callWith_kw (e := e) (rest := []) (thn ((pa_cons he pa_nil hns).run pos pins s σ H (fun vs H1 => match vs with | [x] => srtEnd X.K T tb i σ Q x H1 | _ => False) I h) fun us s1 ⟨vs, H1, I1, r1, q1⟩ => ?_) (by rw [hns]; rfl) hst
  match vs, r1, q1 with
  | [x], .cons (b := u) rx .nil, q1 =>
    obtain ⟨l, xs, kd, rfl, hal, hsk, hdp, hT, q1⟩ := q1
    obtain rfl : u = Value.ref l := rx
    refine thn ((pk_cons (nm := some "key") (kpos := kpos) (pe_lamP (p := p2) (pos := lp) (body := body) L TB hcode hm hu) pk_nil).run pos pins s1 σ H1 (fun zs H2 => match zs with
      | [z] => ∃ f fz, z = .ref f ∧ KeepT T H1 H2 ∧ tabsOk T H2 ∧ (∀ q ∈ fz, H2 q.1 = some q.2) ∧ MadeBy X ⟨[], [⟨a, none, p2⟩], none, [], [], none, []⟩ body scope [] f fz
      | _ => False) I1 ⟨hT, fun f fz H2 kt t2 hz mb => ⟨f, fz, rfl, kt, t2, hz, mb⟩⟩) fun ws s2 ⟨zs, H2, I2, r2, q2⟩ => ?_
    match zs, r2, q2 with
    | [z], .cons (b := u2) rz .nil, q2 =>
      obtain ⟨f, fz, rfl, kt, t2, hz, mb⟩ := q2
      obtain rfl : u2 = Value.ref f := rz
      have hfix : ∀ q ∈ fz, fixO q.2 = true := by
        obtain ⟨_, _, _, _, _, _, _, _, zz⟩ := mb
        exact zz
      obtain ⟨hs, G, g0, turn, fin⟩ := q1 fz H2 kt t2 hz hfix
      obtain ⟨its, rv, pl, hzl⟩ := I2.list hs
      have hil : its.length ≤ sizeLine := by rw [← rv.length]; exact hzl
      show wpAny _ _ (call (.builtin "sorted") [.ref l] [(Str.ofString "key", .ref f)]) _ _ _
      refine PySem.W.sorted_of_sort pl.isList hil (ksk_s1 _ _) (fun _ => ksk_l1 _ _) fun E' => ?_
      rw [ksk_t1]
      generalize hD : s2.heap.objs.size + 1 = D
      have hDge : s2.heap.objs.size ≤ D := by omega
      have o0 : (PySem.W.copyHeap s2.heap its).get? D = some (seqObj "list" its.toArray 0) := by rw [← hD]; exact PySem.W.copyHeap_at _ _
      have hDlt := Heap.lt_size o0
      have I3 : Inv (cin X) pins σ H2 { s2 with heap := PySem.W.copyHeap s2.heap its } := inv_cin (I2.kept (t' := s2.toks) fun b o e => PySem.W.copyHeap_old e)
      have oD : Own (cin X) pins D := Own.of (inv_cin I2) hDge
      have nD : H2 D = none := I2.hok.fresh hDge
      generalize hh3 : PySem.W.copyHeap s2.heap its = h3 at o0 hDlt I3
      obtain ⟨e1, ho1⟩ : ∃ e1, (h3.update D (Obj.mapSeq fun _ => (#[] : Array Value))).get? D = some (seqObj "list" #[] e1) := ⟨_, get?_update_seq o0 fun _ => #[]⟩
      have I4 : Inv (cin X) pins σ H2 { s2 with heap := h3.update D (Obj.mapSeq fun _ => (#[] : Array Value)) } := oD.turn (s := { s2 with heap := h3 }) (t' := s2.toks) I3 nD (upd_same_but _ _ _)
      unfold ksk_tree
      refine wpAny_bind (listItems_at o0 rfl ?_)
      refine wpAny_bind (listUpdate_at o0 rfl ?_ (by rw [List.size_toArray]; exact hil) (Nat.zero_le _))
      refine wpAny_bind (seqEpoch_at ho1 rfl ?_)
      refine wpAny_bind (wpAny_newTuple ?_ (by show its.length ≤ _; exact hil))
      refine wpAny_bind (wpAny_newList ?_ (Nat.zero_le _))
      refine wpAny_holding ?_
      generalize hh4 : h3.update D (Obj.mapSeq fun _ => (#[] : Array Value)) = h4 at ho1 I4
      have I5 : Inv (cin X) pins σ H2 { s2 with heap := h4.push { cls := .type "tuple", data := .seq its.toArray.toList.toArray } } := Inv.kept (s := { s2 with heap := h4 }) (t' := s2.toks) I4 fun b o e => Heap.get?_push_of_some _ e
      have hK0 : s2.heap.objs.size ≤ (h4.push { cls := .type "tuple", data := .seq its.toArray.toList.toArray }).objs.size := by
        rw [Heap.size_push]
        exact Nat.le_of_lt (Nat.lt_of_le_of_lt hDge (Nat.lt_succ_of_lt (Heap.lt_size ho1)))
      refine sort_keys (X := X) (s := { s2 with heap := (h4.push { cls := .type "tuple", data := .seq its.toArray.toList.toArray }).push { cls := .type "list", data := .seq ([] : List Value).toArray } }) (k := 1) (sp := fun cz => spKey tb σ i cz fz) (kd := kd) G (Inv.kept (s := { s2 with heap := h4.push { cls := .type "tuple", data := .seq its.toArray.toList.toArray } }) (t' := s2.toks) I5 fun b o e => Heap.get?_push_of_some _ e) hfn hr.in1.in1
        (fun cz ok => keyEnv_of ok mb L nd hi hgl hb) rv hil hal hsk (fun d hd => ?_) (Own.of (inv_cin I2) hK0) oD (I2.hok.fresh hK0) nD (Heap.get?_push_size _ rfl) (Heap.get?_push_of_some _ (Heap.get?_push_of_some _ ho1)) ?_ g0 (fun t y acc Hc cz hx hl g ck cn => ?_) (fun acc Hn g => (fin acc Hn g).1) fun acc Hn s3 g ha' I6 => ⟨rfl, .ref D, _, I6, rfl, (fin acc Hn g).2 D ha'⟩
      · have h1 := hdp d hd
        have h2 := hr.in1.in1.un
        have h2 : (cin X).A.units + 16 * 1 + 200 < cLine := h2
        omega
      · rw [Heap.size_push]
        exact Nat.ne_of_gt (Nat.lt_succ_of_lt (Heap.lt_size ho1))
      · obtain ⟨k1, k2⟩ := turn t y acc Hc hx hl g
        refine ⟨y, rfl, ⟨fun b o e => join_cz e, fun q hq => ?_⟩, ?_⟩
        · have e1 := k1 q hq
          rw [join_no ?_]
          · exact e1
          · rcases cz_or cz q.1 with ⟨o, q2⟩ | q2
            · rw [cn _ _ q2] at e1; cases e1
            · exact q2
        · rw [less_join' cn]
          refine k2 _ fun v H' g' n kp => ?_
          rw [less_join' n]
          exact g'
end
end Zw
set_option Elab.async false
set_option linter.all false
set_option maxRecDepth 100000
set_option maxHeartbeats 4000000
namespace Zw
open PySem PySem.Spec PyProof.Rows L2 PpSet
section
variable {X : Cx}
/-- {el for target in ir if ..}, el a whole number: D the new set -/
def tSi (w : World) (wi : TI) (g : TG) (tt : TT) (te : TE) (vs : List Nat) : TE := fun σ H Q => wi σ H fun J H1 => ∀ D, H1 D = none → ∃ W : Nat → Nat → Hp → Prop, (∃ m, W 0 m (upd H1 D (SetO w D (fun _ => false) 0))) ∧ ∀ i m H, W i m H →
  (J.stop i H ∧ Q (.ref D) H) ∨ (J.go i H ∧ ∃ Nx : Hp → Prop, (∀ G', Nx G' → ∃ m', m' < m ∧ W (i + 1) m' G') ∧ ∀ x G', J.yld i H x G' → g x (wipe σ vs) G' fun σ2 G2 => wipe σ2 vs = wipe σ vs ∧ tt σ2 G2 fun b G3 =>
    if b = true then te σ2 G3 fun y H4 => ∃ (c : Int) (S : Int → Bool) (n : Nat), y = .int c ∧ H4 D = some (SetO w D S n) ∧ n + 1 < scanBound ∧ Nx (upd H4 D (SetO w D (fun j => S j || decide (j = c)) (if S c = true then n else n + 1))) else Nx G3)
theorem si_core {ps : List (Addr × Obj)} {s : Shared} {σ : L2.St} {H : Hp} {Q : VK} {el tg ir : Expr} {cs : List Expr} {sc : Scope} {ow : List (PySem.Str × Nat)} {pos pos' : Pos} {wi : TI} {g : TG} {tt : TT} {te : TE} {use : Option (Value → Sem Unit)} {Qf : Value → Shared → Prop}
    (hc : X.calm = true) (nd : X.N.Nodup) (I : Inv X ps σ H s) (hI : PI X tg ir wi) (bk : BlkOk X.N X.env.scope sc ow)
    (hG : ∀ (s : Shared) (H : Hp) (C : Addr) (cl : List (PySem.Str × Addr)) (fq : List Addr), PG (X.blk s H sc (compEnvC sc cl C X.env) fq) tg g) (hT : ∀ (s : Shared) (H : Hp) (C : Addr) (cl : List (PySem.Str × Addr)) (fq : List Addr), PTs (X.blk s H sc (compEnvC sc cl C X.env) fq) cs tt)
    (hE : ∀ (s : Shared) (H : Hp) (C : Addr) (cl : List (PySem.Str × Addr)) (fq : List Addr), PE (X.blk s H sc (compEnvC sc cl C X.env) fq) el te) (hS : ∀ x, foldedSetIterable ir X.env x = pure x)
    (h : tSi X.w wi g tt te (ow.map (·.2)) σ H Q)
    (hRR : ∀ D C t' m G', Inv X ps σ G' t' → Q (.ref D) G' → t'.heap.Ns C m → FpOk X ps G' C → compPost (model X.prog X.w) X.A X.xe use Qf (.ref D) C (.ok .next) t') :
    wpAny (model X.prog X.w) X.A (comprehension (.SetComp el [⟨tg, ir, cs, 0⟩] sc pos) sc X.env pos' (newSet (.type "set")) false (eval ir X.env) use) Qf X.xe s := by
  have hfr : ∀ y ∈ sc.names, y.2 = .free → ∃ c, X.env.cells.lookup y.1 = some c := fun y hy e => by
    rcases bk.free y hy e with k | k
    · exact I.ok.has _ (.inl k)
    · exact I.ok.has _ (.inr k)
  refine wpAny_comprehension_free (use := use) rfl hS (closure_ok hfr) bk.kind (fun y hy e => by rw [bk.uniq y hy, e])
    (thn (hI.run ps s σ H _ I h) fun xw t1 hx => thn hx fun itw t2 h2 => ?_)
  obtain ⟨it, fq, tk0, J, G2, e, J2, T, st2, f2, q⟩ := h2
  subst e
  refine newSet_ok (newEnv_comp ?_)
  generalize hD : t2.heap.objs.size = D
  have hDo : G2 D = none := J2.hok.fresh (Nat.le_of_eq hD)
  obtain ⟨W, ⟨m0, w0⟩, tn0⟩ := q D hDo
  -- the new list
  generalize hs3 : ({ t2 with heap := t2.heap.push { cls := .type "set", dict := none, data := .set #[] 0 (.fresh 0 0 (!X.w.params.followText "set-order")) } } : Shared) = t3
  have J3 : Inv X ps σ (upd G2 D (SetO X.w D (fun _ => false) 0)) t3 := by
    rw [← hs3]
    refine J2.laid (t' := t2.toks) (fun b o e => Heap.get?_push_of_some _ e) (Nat.le_of_eq hD) ?_
    rw [← hD]
    exact setO_new (setR_fresh X.w)
  have h3 : t3.heap = t2.heap.push { cls := .type "set", dict := none, data := .set #[] 0 (.fresh 0 0 (!X.w.params.followText "set-order")) } := by rw [← hs3]
  have sz : ∀ b ∈ fq, b < t2.heap.objs.size := fun b hb => by
    obtain ⟨o, e, _⟩ := T.obj _ _ st2 b hb
    exact Heap.lt_size e
  have f3 : ∀ b ∈ fq, FpOk X ps (upd G2 D (SetO X.w D (fun _ => false) 0)) b ∧ b < t3.heap.objs.size := fun b hb => by
    have hlt := sz b hb
    refine ⟨⟨?_, (f2 b hb).2⟩, by rw [h3, Heap.size_push]; exact Nat.lt_succ_of_lt hlt⟩
    rw [upd_ne (by rw [← hD]; exact Nat.ne_of_lt hlt)]
    exact (f2 b hb).1
  have st3 : tk0 0 t3.heap := T.keep _ _ _ st2 fun b _ o e => by rw [h3]; exact Heap.get?_push_of_some _ e
  have J4 := block_start J3 bk nd f3
  have pg := hG t3 (upd G2 D (SetO X.w D (fun _ => false) 0)) t3.heap.objs.size (cellsFrom (t3.heap.objs.size + 1) sc.names (cloFrom X.env.cells sc.names [])) fq
  have pt := hT t3 (upd G2 D (SetO X.w D (fun _ => false) 0)) t3.heap.objs.size (cellsFrom (t3.heap.objs.size + 1) sc.names (cloFrom X.env.cells sc.names [])) fq
  have pe := hE t3 (upd G2 D (SetO X.w D (fun _ => false) 0)) t3.heap.objs.size (cellsFrom (t3.heap.objs.size + 1) sc.names (cloFrom X.env.cells sc.names [])) fq
  show codeAny _ _ (.compStart (.SetComp el [⟨tg, ir, cs, 0⟩] sc pos) 0 (.ref it) (.ref D) (compEnvC sc (cellsFrom (t3.heap.objs.size + 1) sc.names (cloFrom X.env.cells sc.names [])) t3.heap.objs.size X.env)) (compPost (model X.prog X.w) X.A X.xe use Qf (.ref D) t3.heap.objs.size) { t3 with heap := pushCells (t3.heap.push { cls := .type "dict", data := .dict #[] }) sc.names }
  have nfq : ∀ b ∈ fq, (upd G2 D (SetO X.w D (fun _ => false) 0)) b = none := fun b hb => (f3 b hb).1.1
  generalize hce : compEnvC sc (cellsFrom (t3.heap.objs.size + 1) sc.names (cloFrom X.env.cells sc.names [])) t3.heap.objs.size X.env = ce at J4 pg pt pe ⊢
  have cL : ce.locals = t3.heap.objs.size := by subst hce; rfl
  generalize hH3 : upd G2 D (SetO X.w D (fun _ => false) 0) = G3 at J3 J4 pg pt pe w0 nfq f3
  generalize hs4 : ({ t3 with heap := pushCells (t3.heap.push { cls := .type "dict", data := .dict #[] }) sc.names } : Shared) = t4 at J4 ⊢
  have st4 : tk0 0 t4.heap := T.keep _ _ _ st3 fun b _ o e => by rw [← hs4]; exact pushCells_keeps _ _ _ _ (Heap.get?_push_of_some _ e)
  have sta : ∀ {σ' : L2.St} {G' : Hp} {t' : Shared}, Inv (X.blk t3 G3 sc ce fq) [] σ' G' t' → (∀ b ∈ fq, G' b = none) → ∀ b ∈ fq, FpOk (X.blk t3 G3 sc ce fq) [] G' b := fun {σ' G' t'} J' hn b hb =>
    ⟨hn b hb, (J'.ok.exf b hb).1, J'.ok.exfs b hb, .inl hb, fun x c e => (J'.ok.exf b hb).2 x c e, fun p hp => absurd (show p ∈ ([] : List (Addr × Obj)) ++ [] from hp) (by simp)⟩
  have lp : codeAny (model X.prog X.w) X.A (.compLoop (.SetComp el [⟨tg, ir, cs, 0⟩] sc pos) 0 (.ref it) (.ref D) ce) (compPost (model X.prog X.w) X.A X.xe use Qf (.ref D) t3.heap.objs.size) t4 := by
    refine compLoopS_any (fun n t' => ∃ i G', Inv (X.blk t3 G3 sc ce fq) [] (wipe σ (ow.map (·.2))) G' t' ∧ tk0 i t'.heap ∧ (∀ b ∈ fq, G' b = none) ∧ W i n G') ?_ m0 ⟨0, G3, J4, st4, nfq, w0⟩
    rintro n t5 ⟨i, G5, J5, st5, n5, w5⟩
    rcases tn0 i n G5 w5 with ⟨stp0, qq⟩ | ⟨go, Nx, hNx, stp⟩
    · have td := T.done (X.blk t3 G3 sc ce fq) rfl rfl rfl hc i [] t5 _ G5 (fun _ _ => False) J5 (sta J5 n5) st5 stp0
      refine thnF td fun r t6 ⟨hr, J6⟩ => ?_
      subst hr
      -- back in the def's context
      have J7 : Inv X ps σ G5 t6 := J3.call' (ch := fq) J6.os J6.base J6.hok J6.bare fun b hb => ⟨(f3 b hb).1.2.2.2.1, (f3 b hb).1.2.1, (f3 b hb).1.2.2.2.2.1, (f3 b hb).1.2.2.2.2.2⟩
      have nC : G5 t3.heap.objs.size = none := by
        have z : G5 ce.locals = none := J6.free
        rw [cL] at z
        exact z
      obtain ⟨m, hn, _⟩ := J6.loc
      have hn : t6.heap.Ns ce.locals m := hn
      rw [cL] at hn
      exact hRR D t3.heap.objs.size t6 m G5 J7 qq hn (J3.fpOk (Nat.le_refl _) nC)
    · have ti := T.item (X.blk t3 G3 sc ce fq) rfl rfl rfl hc i [] t5 _ G5 (fun _ _ => False) J5 (sta J5 n5) st5 go
      refine thnF ti fun r t6 ⟨u, hr, h6⟩ => ?_
      subst hr
      refine thnF h6 fun _ t7 ⟨x, G7, J7, r7, y7, st7, n7⟩ => ?_
      have I7' := J7.pinned (sta J7 n7) (T.obj _ _ st7)
      refine thnF (pg.run _ t7 _ G7 x u _ I7' r7 (stp x G7 y7)) fun _ t8 ⟨σ8, G8, J8, hw8, q8⟩ => ?_
      refine thnF (pt.run _ t8 σ8 G8 _ J8 q8) fun b t9 ⟨G9, J9, q9⟩ => ?_
      -- the turn's end
      have fin : ∀ {t' : Shared} {G' : Hp}, Inv (X.blk t3 G3 sc ce fq) ([] ++ pinsAt fq t7.heap) σ8 G' t' → Nx G' → ∃ m, m < n ∧ ∃ i G', Inv (X.blk t3 G3 sc ce fq) [] (wipe σ (ow.map (·.2))) G' t' ∧ tk0 i t'.heap ∧ (∀ b ∈ fq, G' b = none) ∧ W i m G' := fun {t' G'} J' nx => by
        obtain ⟨m', hm, w'⟩ := hNx G' nx
        have pin' : ∀ b ∈ fq, ∀ o, t7.heap.get? b = some o → t'.heap.get? b = some o ∧ G' b = none := fun b hb o e =>
          let z := J'.pin (b, o) (List.mem_append_right _ (List.mem_append_right _ (mem_pinsAt hb e)))
          ⟨z.1, z.2.1⟩
        have hl : (wipe σ (ow.map (·.2))).length = σ8.length := by rw [← hw8, wipe_length]
        refine ⟨m', hm, i + 1, G', (J'.unpinned (pins := [])).weak hl (fun j v e => ?_), T.keep _ _ _ st7 fun b hb o e => (pin' b hb o e).1, fun b hb => ?_, w'⟩
        · rw [← hw8] at e
          exact (wipe_some e).1
        · obtain ⟨o, e, _⟩ := T.obj _ _ st7 b hb
          exact (pin' b hb o e).2
      cases b with
      | false =>
        simp only [Bool.false_eq_true, if_false] at q9 ⊢
        exact fin J9 q9
      | true =>
        simp only [if_true] at q9 ⊢
        refine thnF (pe.run _ t9 σ8 G9 _ J9 q9) fun z t10 ⟨yv, G10, J10, r10, cb, S0, n0, ey, hD10, hz10, nx⟩ => ?_
        subst ey
        obtain ⟨zt, rfl⟩ := (show ∃ t, z = Value.int cb t from r10)
        refine wpAny_mono (mt_sadd (X := X.blk t3 G3 sc ce fq) _ t10 σ8 G10 (.ref D) [.int cb] (.ref D) [.int cb zt] (fun _ G' => Nx G') J10 rfl (.cons ⟨zt, rfl⟩ .nil) ⟨D, cb, S0, n0, rfl, rfl, hD10, hz10, nx⟩) (fun v t11 hv => ?_) fun _ _ h' => False.elim h'
        obtain ⟨_, G11, J11, _, nx'⟩ := hv
        exact fin J11 nx'
  exact codeAny_compStart_set lp (T.self X.A 0 _ _ _ st4 lp)
/-- as a value -/
theorem pe_si {el tg ir : Expr} {cs : List Expr} {sc : Scope} {ow : List (PySem.Str × Nat)} {pos : Pos} {wi : TI} {g : TG} {tt : TT} {te : TE} (hc : X.calm = true) (nd : X.N.Nodup) (hI : PI X tg ir wi) (bk : BlkOk X.N X.env.scope sc ow)
    (hG : ∀ (s : Shared) (H : Hp) (C : Addr) (cl : List (PySem.Str × Addr)) (fq : List Addr), PG (X.blk s H sc (compEnvC sc cl C X.env) fq) tg g) (hT : ∀ (s : Shared) (H : Hp) (C : Addr) (cl : List (PySem.Str × Addr)) (fq : List Addr), PTs (X.blk s H sc (compEnvC sc cl C X.env) fq) cs tt)
    (hE : ∀ (s : Shared) (H : Hp) (C : Addr) (cl : List (PySem.Str × Addr)) (fq : List Addr), PE (X.blk s H sc (compEnvC sc cl C X.env) fq) el te) (hS : ∀ x, foldedSetIterable ir X.env x = pure x := by intro _; rfl) :
    PE X (.SetComp el [⟨tg, ir, cs, 0⟩] sc pos) (tSi X.w wi g tt te (ow.map (·.2))) := by
  refine ⟨fun ps s σ H Q I h => ?_⟩
  rw [eval_SetComp]
  refine si_core hc nd I hI bk hG hT hE hS h fun D C t' m G' J' q hn f => ⟨m, hn, fun h'' sb => ?_⟩
  obtain ⟨f0, f1, f2, f3, f4, f5⟩ := f
  exact ⟨.ref D, G', J'.turned (t' := t'.toks) (fun b o hb e => (sb.2 b hb).trans e) f0 f1 f3 f4 f5, rfl, q⟩
end
end Zw
set_option Elab.async false
set_option linter.all false
set_option maxRecDepth 100000
set_option maxHeartbeats 4000000
namespace Zw
open PySem PySem.Spec PyProof.Rows L2
section
variable {X : Cx}
def rLenSet (w : World) : List V → Hp → VK → Prop := fun xs H Q => ∃ (a : Addr) (S : Int → Bool) (n : Nat), xs = [.ref a] ∧ H a = some (SetO w a S n) ∧ Q (.int (n : Nat)) H
theorem call_len_set : CallR X (.builtin "len") (rLenSet X.w) := by
  intro pins s σ H xs us Q I r h
  obtain ⟨a, S, n, rfl, ha, q⟩ := h
  obtain ⟨u, rfl, rx⟩ := Vals.one r
  cases rx
  obtain ⟨o, es, ep, t, ho, hex, hd, _, _, _, hb, hf, hn, _⟩ := setO_get I ha
  subst hn
  have hbig : (es.size : Int) < 2 ^ 63 := by
    have h1 := fits_of_scanBound hb
    have h2 : scanBound ≤ 2 ^ 62 := by decide +kernel
    omega
  exact Calls.call_function_entry kind_len plain_len entry_len (args_len1 _) (wpAny_len_body_set ho hex hd hf hbig ⟨.int _, H, I.tok _, ⟨_, rfl⟩, q⟩)
def rSortK : List V → Hp → VK → Prop := fun xs H Q => ∃ (a : Addr) (kvs : List (Key × V)) (ks : List Int), xs = [.ref a] ∧ Rd H a (.dK kvs) ∧ kvs.map (·.1) = ks.map Sum.inl ∧
  ∀ (ys : List Int) p, ys.Perm ks → ys.Pairwise (· ≤ ·) → H p = none → Q (.ref p) (upd H p (.lst (ys.map V.int)))
theorem ints_at : ∀ {us : List Value} {ks : List Int}, us.length = ks.length → (∀ (j : Nat) (v : Value), us[j]? = some v → ∃ (x : Int) (t : Tok), ks[j]? = some x ∧ v = Value.int x t) → IntsAre us ks
  | [], [], _, _ => .nil
  | u :: us, k :: ks, hl, h => by
    obtain ⟨x, t, e1, rfl⟩ := h 0 u rfl
    cases (Option.some.inj e1)
    refine .cons _ _ (ints_at (by simpa using hl) fun j v e => ?_)
    obtain ⟨y, t', a, b⟩ := h (j + 1) v (by simpa using e)
    exact ⟨y, t', by simpa using a, b⟩
  | [], _ :: _, hl, _ => by simp at hl
  | _ :: _, [], hl, _ => by simp at hl
theorem call_sortK (hcalm : X.calm = true) : CallR X (.builtin "sorted") rSortK := by
  intro pins s σ H xs us Q I r q
  obtain ⟨a, kvs, ks, rfl, hd, hks, q⟩ := q
  obtain ⟨u, rfl, rx⟩ := Vals.one r
  cases rx
  obtain ⟨z, lo, vs, rel, dd⟩ := dk_rd I.hok hd
  obtain ⟨ep, hat⟩ := dd.dictAt
  have hkeys : vs.map (·.1) = ks.map Sum.inl := rel.keys.symm.trans hks
  have hl : vs.length = ks.length := by simpa using congrArg List.length hkeys
  have h16 : vs.length ≤ sizeLine := by
    have e := congrArg List.length rel.keys
    simp only [List.length_map] at e
    omega
  refine Calls.call_function_entry PyProof.Rows.kind_sorted PyProof.Rows.plain_sorted PyProof.Rows.entry_sorted (PyProof.Rows.args_sorted1 _) ?_
  unfold Builtin.«sorted»
  refine wpAny_bind (m := checkCount "sorted" 1 1 _) (wpAny_pure ?_)
  refine wpAny_bind (PySem.W.kdu_collect (A := X.A.in1) (PySem.W.kdl_dict (knd := mixKind X.prog X.w) (kvs := vs) (ep := ep) lo) (I.ok.hd hcalm) hat h16 fun h' tk acc hk hacc => ?_)
  have hal : acc.toList.length = ks.length := by rw [Array.length_toList, hacc.1, hl]
  have hS : IntsAre acc.toList ks := ints_at hal fun j v e => by
    obtain ⟨k, x, e1, e2⟩ := hacc.2 j v (by rw [← Array.getElem?_toList]; exact e)
    have e3 : (vs.map (·.1))[j]? = some k := by rw [List.getElem?_map, e1] <;> rfl
    rw [hkeys, List.getElem?_map] at e3
    obtain ⟨y, e4, rfl⟩ := Option.map_eq_some_iff.mp e3
    rcases keyIs_shape (show keyIs (Sum.inl y) v = true from e2) with ⟨i, t, ek, ev⟩ | ⟨z, t, ek, ev⟩
    · cases ek
      exact ⟨_, t, e4, ev⟩
    · cases ek
  have I1 : Inv X pins σ H { s with heap := h', toks := tk } := I.kept hk
  refine wpAny_bind (wpAny_newList ?_ (by rw [hal]; omega))
  have hoL : (h'.push (seqObj "list" acc.toList.toArray 0)).get? h'.objs.size = some (seqObj "list" acc.toList.toArray 0) := Heap.get?_push_size _ rfl
  show wpAny _ _ _ _ _ { s with heap := h'.push (seqObj "list" acc.toList.toArray 0), toks := tk }
  refine wpAny_bind (wpAny_holding (wpAny_call_entry PyProof.Rows.slot_list_sort ⟨_, hoL, rfl⟩ PyProof.Rows.entry_list_sort
    (list_sort_treeAny (s := { s with heap := h'.push (seqObj "list" acc.toList.toArray 0), toks := tk }) hoL hS (by rw [hal]; omega) fun out ys g1 g2 g3 => ⟨_, rfl, ?_⟩) (PyProof.Rows.args_list_sort _)))
  obtain ⟨ep', he'⟩ := PyProof.Rows.sortedHeap_at (vs := acc.toList) (out := out) hoL
  refine wpAny_pure ⟨_, rfl, .ref h'.objs.size, upd H h'.objs.size (.lst (ys.map V.int)), Inv.laid (s := { s with heap := h', toks := tk }) (t' := tk) I1 (fun b o e => ?_) (Nat.le_refl _) ?_, rfl, q ys _ g2 g3 (I1.hok.fresh (Nat.le_refl _))⟩
  · have e : h'.get? b = some o := e
    have hb := Heap.lt_size e
    rw [PyProof.Rows.sortedHeap_old (Nat.ne_of_lt hb) (by rw [Heap.size_push]; exact Nat.lt_succ_of_lt hb)]
    exact Heap.get?_push_of_some _ e
  · refine ⟨by rw [List.length_map, g2.length_eq]; omega, out.toList, ep', vals_of_ints g1, ?_⟩
    rw [Array.toArray_toList]
    exact he'
def rSortD (K : PySem.W.Frag) : List V → Hp → VK → Prop := fun xs H Q => ∃ (p : Addr) (ys : List V) (ds : List PyData), xs = [.ref p] ∧ SqL K H p ys ∧ ys.length = ds.length ∧ (∀ (i : Nat) v d, ys[i]? = some v → ds[i]? = some d → KD H v d) ∧
  PySem.W.AllAlike ds ∧ PySem.W.Sortable ds ∧ (∀ d, d ∈ ds → d.depth ≤ 8) ∧ ∀ q, H q = none → Q (.ref q) (upd H q (.lst (((ys.zip ds).mergeSort (PySem.W.dataLe false Prod.snd)).map Prod.fst)))
theorem call_sortD (hu : X.A.units + 65 < cLine) : CallR X (.builtin "sorted") (rSortD X.K) := by
  intro pins s σ H xs us Q I r q
  obtain ⟨p, ys, ds, rfl, hs, hl, hk, hal, hso, hdp, q⟩ := q
  obtain ⟨u, rfl, rx⟩ := Vals.one r
  cases rx
  obtain ⟨its, rv, pl, hz⟩ := I.list hs
  have hlen := rv.length
  have hz2 : (ys.zip ds).length = ys.length := by rw [List.length_zip]; omega
  have hmap : (ys.zip ds).map Prod.snd = ds := List.map_snd_zip (by omega)
  have e1 : PySem.W.EachIs (fun (v : Value) (b : V × PyData) => RelV b.1 v) its (ys.zip ds) := each_of (by omega) fun i v b h1 h2 => by
    obtain ⟨x, h3, h4⟩ := vals_at rv h1
    have h5 := (List.getElem?_zip_eq_some.mp h2).1
    rw [h3] at h5
    cases h5
    exact h4
  have e2 : PySem.W.EachIs (fun (v : Value) (b : V × PyData) => ∃ as, Reads s.heap v b.2 as) its (ys.zip ds) := each_of (by omega) fun i v b h1 h2 => by
    obtain ⟨x, h3, h4⟩ := vals_at rv h1
    obtain ⟨h5, h6⟩ := List.getElem?_zip_eq_some.mp h2
    rw [h3] at h5
    cases h5
    exact ⟨[], (hk i _ _ h3 h6).reads I.hok h4⟩
  refine PySem.W.sorted_data (enc := Prod.snd) pl.isList e1 e2 (by rw [hmap]; exact hal) (by rw [hmap]; exact hso) (by omega) (fun b hb => ?_) fun out ho eo => ?_
  · have hb2 : b.2 ∈ ds := by rw [← hmap]; exact List.mem_map_of_mem hb
    have := hdp _ hb2
    omega
  · have ro : Vals (((ys.zip ds).mergeSort (PySem.W.dataLe false Prod.snd)).map Prod.fst) out := by
      generalize (ys.zip ds).mergeSort (PySem.W.dataLe false Prod.snd) = bs at eo
      clear ho
      induction eo with
      | nil => exact .nil
      | cons h _ ih => exact .cons h ih
    obtain ⟨ep, he'⟩ := PyProof.Rows.sortedAll_at s.heap its (List.toArray out)
    refine ⟨.ref _, upd H (s.heap.objs.size + 1) (.lst _), I.laid (t' := s.toks) (fun _ _ => PyProof.Rows.sortedAll_old) (Nat.le_succ _) ⟨?_, out, ep, ro, he'⟩, rfl, q _ (I.hok.fresh (Nat.le_succ _))⟩
    rw [List.length_map, List.length_mergeSort, hz2]
    exact hz
end
end Zw
set_option Elab.async false
set_option linter.all false
set_option maxRecDepth 100000
set_option maxHeartbeats 4000000
namespace Zw
open PySem PySem.Calls PySem.Spec PyProof.Rows L2
theorem enl_len : typeLookup (.type "enumerate") "__len__" = pure none := by rw [typeLookup_type, builtinLookup_eq_fast]; kernel_rfl
theorem enl_hnt : typeLookup (.type "enumerate") "__length_hint__" = pure none := by rw [typeLookup_type, builtinLookup_eq_fast]; kernel_rfl
/-- where an enumeration of a list stands; what is gathered goes to S -/
structure EnAt (h : Heap) (S e it l : Addr) (its : Array Value) (i : Nat) : Prop where
  li : h.IsListIter it l i
  ls : h.IsList l its
  en : (∃ old, IsEnum h e it ((i : Nat) : Int) old) ∨ ∃ old T f oT, PySem.IsEnumHeld h e it ((i : Nat) : Int) old T f ∧ h.get? T = some oT ∧ T ≠ e ∧ T ≠ it ∧ T ≠ S
structure EnApart (S e it l : Addr) : Prop where
  ei : e ≠ it
  le : l ≠ e
  lt : l ≠ it
  eS : e ≠ S
  iS : it ≠ S
  lS : l ≠ S
theorem EnAt.keeps {h h' : Heap} {S e it l : Addr} {its : Array Value} {i : Nat} (st : EnAt h S e it l its i) (D : EnApart S e it l) (k : ∀ b o, b ≠ S → h.get? b = some o → h'.get? b = some o) : EnAt h' S e it l its i := by
  obtain ⟨⟨o1, a1, b1⟩, ⟨o2, a2, b2⟩, en⟩ := st
  refine ⟨⟨o1, k _ _ D.iS a1, b1⟩, ⟨o2, k _ _ D.lS a2, b2⟩, ?_⟩
  rcases en with ⟨old, z⟩ | ⟨old, T, f, oT, z, zT, r1, r2, r3⟩
  · exact .inl ⟨old, k _ _ D.eS z⟩
  · exact .inr ⟨old, T, f, oT, k _ _ D.eS z, k _ _ r3 zT, r1, r2, r3⟩
/-- the pairs told, in order -/
def EnG (its : Array Value) (h : Heap) (as : List Addr) : Prop := ∀ (j : Nat) (a : Addr), as[j]? = some a → ∃ t v, its[j]? = some v ∧ h.get? a = some { cls := .type "tuple", data := .seq #[.int (j : Nat) t, v] }
section
variable {prog : Program} {w : World} {A : Around} {E : Value → Shared → Prop} {s : Shared} {S e it l : Addr} {its : Array Value}
theorem enl_item {i : Nat} {v : Value} {Q : Option Value → Shared → Prop} (D : EnApart S e it l) (st : EnAt s.heap S e it l its i) (hS : S < s.heap.objs.size) (hv : its[i]? = some v)
    (hQ : ∀ h' tk t, EnAt h' S e it l its (i + 1) → h'.get? s.heap.objs.size = some { cls := .type "tuple", data := .seq #[.int (i : Nat) t, v] } → h'.objs.size = s.heap.objs.size + 1 →
      (∀ b o, b ≠ e → b ≠ it → s.heap.get? b = some o → h'.get? b = some o) → Q (some (.ref s.heap.objs.size)) { s with heap := h', toks := tk }) :
    wpAny (model prog w) A (pyNext (.ref e)) Q E s := by
  obtain ⟨li, ls, en⟩ := st
  have up : ((i + 1 : Nat) : Int) = (i : Int) + 1 := by omega
  have nS : s.heap.objs.size ≠ S := Nat.ne_of_gt hS
  have nI : s.heap.objs.size ≠ it := by
    obtain ⟨_, z, _⟩ := li
    exact Nat.ne_of_gt (Heap.lt_size z)
  rcases en with ⟨old, z⟩ | ⟨old, T, f, oT, z, zT, r1, r2, r3⟩
  · have nE : s.heap.objs.size ≠ e := Nat.ne_of_gt (Heap.lt_size z)
    refine wpAny_pyNext_enum_item z li ls hv D.ei fun h' a1 a2 a3 a4 a5 => hQ h' _ _ ⟨a2, ls.at fun o q => a5 l o D.le D.lt q, .inr ⟨v, s.heap.objs.size, false, _, ?_, a3, nE, nI, nS⟩⟩ a3 a4 a5
    rw [up]
    exact a1
  · refine wpAny_pyNext_enum_item_held z zT r1 r2 li ls hv D.ei fun h' a1 a2 a3 a4 a5 => hQ h' _ _ ⟨a2, ls.at fun o q => a5 l o D.le D.lt q, .inr ⟨old, T, true, oT, ?_, a5 T oT r1 r2 zT, r1, r2, r3⟩⟩ a3 a4 a5
    rw [up]
    exact a1
theorem enl_done {i : Nat} {Q : Option Value → Shared → Prop} (hh : A.handled = none) (st : EnAt s.heap S e it l its i) (hv : its[i]? = none) (hQ : ∀ h', (∀ b o, b ≠ it → s.heap.get? b = some o → h'.get? b = some o) → Q none { s with heap := h' }) :
    wpAny (model prog w) A (pyNext (.ref e)) Q E s := by
  obtain ⟨li, ls, en⟩ := st
  rcases en with ⟨old, z⟩ | ⟨old, T, f, oT, z, zT, r1, r2, r3⟩
  · exact wpAny_pyNext_enum_end hh z li ls hv fun h' k => hQ h' fun b o n q => k b o n q
  · exact wpAny_pyNext_enum_end_held hh z li ls hv fun h' k => hQ h' fun b o n q => k b o n q
end
section
variable {prog : Program} {w : World} {A : Around} {s : Shared} {R : Result → Shared → Prop} {S e it l : Addr} {its : Array Value}
theorem enl_loop (hh : A.handled = none) (D : EnApart S e it l) (hz : its.size ≤ sizeLine) (res : Value) {h0 : Heap} (hlt : S < h0.objs.size)
    (hR : ∀ h' tk acc c as, (∀ b o, b ≠ S → b ≠ e → b ≠ it → h0.get? b = some o → h'.get? b = some o) → h'.get? S = some { cls := .type "list", dict := none, data := .seq acc c, slots := #[] } → as.length = its.size → EnG its h' as →
      as.Nodup → (∀ a ∈ as, h0.objs.size ≤ a) → acc.toList = as.map Value.ref → R (.ok (.ret res)) { s with heap := h', toks := tk }) :
    ∀ (m i : Nat) (h : Heap) (tk c : Nat) (acc : Array Value) (as : List Addr), its.size - i = m → i ≤ its.size → EnAt h S e it l its i → (∀ b o, b ≠ S → b ≠ e → b ≠ it → h0.get? b = some o → h.get? b = some o) →
      h.get? S = some { cls := .type "list", dict := none, data := .seq acc c, slots := #[] } → acc.toList = as.map Value.ref → as.length = i → EnG its h as → as.Nodup → (∀ a ∈ as, h0.objs.size ≤ a ∧ a < h.objs.size ∧ a ≠ e ∧ a ≠ it) → h0.objs.size ≤ h.objs.size →
      codeAny (model prog w) A (.builtin "list.extend.loop" ⟨[.ref S, .ref e, res], []⟩) R { s with heap := h, toks := tk } := by
  intro m
  induction m with
  | zero =>
    intro i h tk c acc as hm hi st k0 gS eA lA gA nd fr le0
    have ei : i = its.size := by omega
    refine codeAny_builtin PySem.F.entry_extend_loop ?_
    rw [Around.under_plainId PySem.F.plain_extend_loop _]
    show wpAny _ A.in1 (pyNext (.ref e) >>= _) _ _ _
    refine wpAny_bind (enl_done (s := { s with heap := h, toks := tk }) (A := A.in1) hh st (by rw [ei]; exact Array.getElem?_eq_none (Nat.le_refl _)) fun h' k1 => ?_)
    refine wpAny_pure (hR h' tk acc c as (fun b o n1 n2 n3 q => k1 b o n3 (k0 b o n1 n2 n3 q)) (k1 S _ (Ne.symm D.iS) gS) (by omega) (fun j a hj => ?_) nd (fun a ha => (fr a ha).1) eA)
    obtain ⟨t, v, g1, g2⟩ := gA j a hj
    exact ⟨t, v, g1, k1 a _ (fr a (List.mem_of_getElem? hj)).2.2.2 g2⟩
  | succ m ih =>
    intro i h tk c acc as hm hi st k0 gS eA lA gA nd fr le0
    have hlt2 : i < its.size := by omega
    have hv := Array.getElem?_eq_getElem hlt2
    have asz : acc.size = i := by rw [← Array.length_toList, eA, List.length_map, lA]
    have hSl : S < h.objs.size := Heap.lt_size gS
    refine codeAny_builtin PySem.F.entry_extend_loop ?_
    rw [Around.under_plainId PySem.F.plain_extend_loop _]
    show wpAny _ A.in1 (pyNext (.ref e) >>= _) _ _ _
    refine wpAny_bind (enl_item (s := { s with heap := h, toks := tk }) (A := A.in1) D st hSl hv fun h' tk' t st' gT sz' k1 => ?_)
    dsimp only at gT sz' k1 ⊢
    have gS' := k1 S _ (Ne.symm D.eS) (Ne.symm D.iS) gS
    have k2 : ∀ b o, b ≠ S → h'.get? b = some o → (h'.update S (Obj.mapSeq (·.push (Value.ref h.objs.size)))).get? b = some o := fun b o n q => (Heap.get?_update_other _ _ (Ne.symm n)).trans q
    have nT : h.objs.size ≠ S := Nat.ne_of_gt hSl
    have nE : h.objs.size ≠ e := by
      rcases st.en with ⟨_, z⟩ | ⟨_, _, _, _, z, _⟩
      · exact Nat.ne_of_gt (Heap.lt_size z)
      · exact Nat.ne_of_gt (Heap.lt_size z)
    have nI : h.objs.size ≠ it := by
      obtain ⟨_, z, _⟩ := st.li
      exact Nat.ne_of_gt (Heap.lt_size z)
    have gT2 := k2 _ _ nT gT
    show wpAny _ A.in1 (updateSeq S (·.push (Value.ref h.objs.size)) >>= _) _ _ _
    refine wpAny_bind ?_
    refine wpAny_updateSeq gS' rfl (wpAny_pure ⟨plainId_quiet PySem.F.plain_extend_loop _, ih (i + 1) _ tk' _ (acc.push (Value.ref h.objs.size)) (as ++ [h.objs.size]) (by omega) hlt2 (st'.keeps D k2)
      (fun b o n1 n2 n3 q => k2 b o n1 (k1 b o n2 n3 (k0 b o n1 n2 n3 q))) (Heap.get?_update_self _ gS' rfl) (by rw [Array.toList_push, eA, List.map_append]; rfl) (by rw [List.length_append, lA]; rfl) ?_ ?_ ?_ ?_⟩) (by rw [asz]; omega) (by show (acc.push (Value.ref h.objs.size)).size ≤ sizeLine + 1; rw [Array.size_push, asz]; omega)
    · intro j a hj
      by_cases h1 : j < as.length
      · rw [List.getElem?_append_left h1] at hj
        obtain ⟨t2, v2, g1, g2⟩ := gA j a hj
        have f := fr a (List.mem_of_getElem? hj)
        refine ⟨t2, v2, g1, k2 a _ ?_ (k1 a _ f.2.2.1 f.2.2.2 g2)⟩
        rintro rfl
        exact absurd hlt (Nat.not_lt.mpr f.1)
      · rw [List.getElem?_append_right (Nat.le_of_not_lt h1)] at hj
        have ej : j - as.length = 0 := by
          have := (List.getElem?_eq_some_iff.mp hj).1
          simpa using this
        rw [ej] at hj
        cases hj
        have : j = i := by omega
        subst this
        exact ⟨t, _, hv, gT2⟩
    · refine List.nodup_append.mpr ⟨nd, by simp, fun a ha b hb => ?_⟩
      obtain rfl := List.mem_singleton.mp hb
      exact Nat.ne_of_lt (fr a ha).2.1
    · intro a ha
      have zs : h.objs.size < (h'.update S (Obj.mapSeq (·.push (Value.ref h.objs.size)))).objs.size := Heap.lt_size gT2
      rcases List.mem_append.mp ha with ha | ha
      · exact ⟨(fr a ha).1, Nat.lt_trans (fr a ha).2.1 zs, (fr a ha).2.2⟩
      · obtain rfl := List.mem_singleton.mp ha
        exact ⟨le0, zs, nE, nI⟩
    · exact Nat.le_trans le0 (Nat.le_of_lt (Heap.lt_size gT2))
theorem enl_ext (hh : A.handled = none) (hz : its.size ≤ sizeLine) (S e it l : Addr) (D : EnApart S e it l) (old : Value) (he : IsEnum s.heap e it 0 old) (hi : s.heap.IsListIter it l 0) (hl : s.heap.IsList l its) (res : Value) (c₀ : Nat) (hS : s.heap.get? S = some { cls := .type "list", data := .seq #[] c₀ })
    (hR : ∀ h' tk acc c as, (∀ b o, b ≠ S → b ≠ e → b ≠ it → s.heap.get? b = some o → h'.get? b = some o) → h'.get? S = some { cls := .type "list", dict := none, data := .seq acc c, slots := #[] } → as.length = its.size → EnG its h' as →
      as.Nodup → (∀ a ∈ as, s.heap.objs.size ≤ a) → acc.toList = as.map Value.ref → R (.ok (.ret res)) { s with heap := h', toks := tk }) :
    wpAny (model prog w) A.in1 (Builtin.List.listExtendWith (.ref S) (.ref e) res)
      (fun fin s' => match fin with | .done f => R (.ok f) s' | .again c' => c'.quiet = true ∧ codeAny (model prog w) A c' R s') (fun e s' => R (.error e) s') s := by
  have ty : s.TypeIs (.ref e) "enumerate" := ⟨_, he, rfl⟩
  have key : ∀ (h : Heap) (c₁ tk : Nat), (∀ b o, b ≠ S → s.heap.get? b = some o → h.get? b = some o) → h.objs.size = s.heap.objs.size →
      h.get? S = some { cls := .type "list", data := .seq #[] c₁ } → codeAny (model prog w) A (.builtin "list.extend.loop" ⟨[.ref S, .ref e, res], []⟩) R { s with heap := h, toks := tk } := by
    intro h c₁ tk k sz gS
    have st : EnAt h S e it l its 0 := EnAt.keeps ⟨hi, hl, .inl ⟨old, he⟩⟩ D k
    exact enl_loop (h0 := s.heap) hh D hz res (Heap.lt_size hS) hR its.size 0 h tk c₁ #[] [] rfl (Nat.zero_le _) st (fun b o n1 _ _ q => k b o n1 q) gS rfl rfl (fun j a hj => by simp at hj) (by simp) (fun a ha => by cases ha) (by rw [sz]; exact Nat.le_refl _)
  unfold Builtin.List.listExtendWith
  refine wpAny_bind (wpAny_typeOf ty ?_)
  have n1 : Builtin.List.listSameRef (.ref S) (.ref e) = false := by simp [Builtin.List.listSameRef, Ne.symm D.eS]
  have n2 : (Value.type "enumerate" == Value.type "list") = false := by decide
  have n3 : (Value.type "enumerate" == Value.type "tuple") = false := by decide
  simp only [n1, n2, n3, Bool.or_false, Bool.false_eq_true, if_false]
  refine wpAny_bind (wpAny_pyIter_enum he ?_)
  refine wpAny_bind (wpAny_holding ?_)
  unfold Builtin.List.listLengthHint
  refine wpAny_bind (wpAny_specialOf ty enl_len ?_)
  show wpAny _ A.in1 (specialOf (Value.ref e) (Str.ofString "__length_hint__") >>= _) _ _ _
  refine wpAny_bind (wpAny_specialOf ty enl_hnt ?_)
  refine wpAny_pure ?_
  show wpAny _ A.in1 (rule "list.extend.makes-room" >>= fun _ => Builtin.List.listTouch (.ref S) >>= fun _ => again (.builtin "list.extend.loop" ⟨[.ref S, .ref e, res], []⟩)) _ _ _
  refine wpAny_bind (wpAny_rule ?_)
  refine wpAny_bind ?_
  show wpAny _ A.in1 (updateSeq S (·.push .none) >>= fun _ => updateSeq S (·.pop)) _ _ _
  refine wpAny_bind (wpAny_updateSeq hS rfl ?_)
  have g2 := Heap.get?_update_self (Obj.mapSeq (·.push Value.none)) hS rfl
  refine wpAny_updateSeq (hz := by seq_fits) g2 rfl ?_
  have g3 := Heap.get?_update_self (Obj.mapSeq (·.pop)) g2 rfl
  refine wpAny_pure ⟨plainId_quiet PySem.F.plain_extend_loop _, key _ _ _ (fun b o n q => ?_) (by rw [Heap.size_update, Heap.size_update]) g3⟩
  exact (Heap.get?_update_other _ _ (Ne.symm n)).trans ((Heap.get?_update_other _ _ (Ne.symm n)).trans q)
end
section
variable {prog : Program} {w : World} {A : Around} {E : Value → Shared → Prop} {s : Shared} {its : Array Value}
theorem enl_call {Q : Value → Shared → Prop} {e it l : Addr} {old : Value} (hh : A.handled = none) (hz : its.size ≤ sizeLine) (ei : e ≠ it) (le : l ≠ e) (lt : l ≠ it) (he : IsEnum s.heap e it 0 old) (hi : s.heap.IsListIter it l 0) (hl : s.heap.IsList l its)
    (hQ : ∀ h' tk acc c as, (∀ b o, b ≠ e → b ≠ it → s.heap.get? b = some o → h'.get? b = some o) → h'.get? s.heap.objs.size = some { cls := .type "list", dict := none, data := .seq acc c, slots := #[] } → as.length = its.size → EnG its h' as →
      as.Nodup → (∀ a ∈ as, s.heap.objs.size < a) → acc.toList = as.map Value.ref → Q (.ref s.heap.objs.size) { s with heap := h', toks := tk }) :
    wpAny (model prog w) A (call (.type "list") [.ref e]) Q E s := by
  refine callType_codes (Q₁ := fun obj s₁ => obj = .ref s.heap.objs.size ∧ s₁ = { s with heap := s.heap.push { cls := .type "list", data := .seq #[] } }) PySem.F.called_list (PySem.F.typeCall_list_1 _) PySem.F.entry_list_init
    (code_list_new _ ⟨rfl, rfl⟩) fun obj s₁ hq => ?_
  obtain ⟨rfl, rfl⟩ := hq
  have le1 : e < s.heap.objs.size := Heap.lt_size he
  have li1 : it < s.heap.objs.size := by
    obtain ⟨_, z, _⟩ := hi
    exact Heap.lt_size z
  have ll1 : l < s.heap.objs.size := by
    obtain ⟨_, z, _⟩ := hl
    exact Heap.lt_size z
  have D : EnApart s.heap.objs.size e it l := ⟨ei, le, lt, Nat.ne_of_lt le1, Nat.ne_of_lt li1, Nat.ne_of_lt ll1⟩
  have gS : (s.heap.push { cls := .type "list", data := .seq #[] }).get? s.heap.objs.size = some { cls := .type "list", data := .seq #[] } := Heap.get?_push_size _ rfl
  refine ⟨⟨_, gS, rfl⟩, PySem.F.args_list_init_2 _ _, ?_⟩
  show wpAny _ _ (do let old ← Builtin.List.listItems (.ref s.heap.objs.size); Builtin.List.listUpdate (.ref s.heap.objs.size) (fun _ => #[]); letGo old.toList.reverse; Builtin.List.listExtendWith (.ref s.heap.objs.size) (.ref e) .none) _ _ _
  refine wpAny_bind ?_
  unfold Builtin.List.listItems
  refine wpAny_bind (wpAny_seqItems gS rfl (wpAny_pure ?_))
  show wpAny _ _ (updateSeq s.heap.objs.size (fun _ => #[]) >>= fun _ => letGo (#[] : Array Value).toList.reverse >>= fun _ => Builtin.List.listExtendWith (.ref s.heap.objs.size) (.ref e) .none) _ _ _
  refine wpAny_bind (wpAny_updateSeq gS rfl ?_)
  have g2 := Heap.get?_update_self (Obj.mapSeq (fun _ => (#[] : Array Value))) gS rfl
  have k1 : ∀ b o, s.heap.get? b = some o → ((s.heap.push { cls := .type "list", data := .seq #[] }).update s.heap.objs.size (Obj.mapSeq (fun _ => (#[] : Array Value)))).get? b = some o :=
    fun b o q => (Heap.get?_update_other _ _ (Ne.symm (Nat.ne_of_lt (Heap.lt_size q)))).trans (Heap.get?_push_of_some _ q)
  refine wpAny_bind (wpAny_letGo ?_)
  refine enl_ext (its := its) (A := A.in1) hh hz s.heap.objs.size e it l D old (k1 _ _ he) (hi.at fun o q => k1 it o q) (hl.at fun o q => k1 l o q) .none _ g2 fun h' tk acc c as k2 gT la ga nd fr ea => ⟨rfl, ?_⟩
  have sz : ((s.heap.push { cls := .type "list", data := .seq #[] }).update s.heap.objs.size (Obj.mapSeq (fun _ => (#[] : Array Value)))).objs.size = s.heap.objs.size + 1 := by rw [Heap.size_update, Heap.size_push]
  exact hQ h' tk acc c as (fun b o n1 n2 q => k2 b o (Nat.ne_of_lt (Heap.lt_size q)) n1 n2 (k1 b o q)) gT la ga nd (fun a ha => Nat.le_trans (Nat.le_of_eq sz.symm) (fr a ha)) ea
end
def tupsH (H : Hp) : List Addr → List V → Nat → Hp
  | a :: as, x :: xs, i => tupsH (upd H a (.tup [.int (i : Nat), x])) as xs (i + 1)
  | _, _, _ => H
theorem tupsH_ne {p : Addr} : ∀ (as : List Addr) (xs : List V) (i : Nat) (H : Hp), p ∉ as → tupsH H as xs i p = H p
  | [], _, _, _, _ => rfl
  | _ :: _, [], _, _, _ => rfl
  | a :: as, x :: xs, i, H, hp => by
    show tupsH (upd H a (.tup [.int (i : Nat), x])) as xs (i + 1) p = H p
    rw [tupsH_ne as xs (i + 1) _ (fun h => hp (List.mem_cons_of_mem _ h)), upd_ne (show p ≠ a from fun e => hp (by rw [e]; exact List.mem_cons_self))]
theorem un_add {fs ex : List Addr} {H H1 : Hp} {h h1 : Heap} {a : Addr} {o : HO} (u : Un fs ex H H1 h h1) (hp : h.get? a = none) (hn : H1 a = none) : Un fs ex H (upd H1 a o) h h1 :=
  { keep := u.keep, slot := u.slot, there := u.there
    free := fun b ob q n hx => by
      have : b ≠ a := by
        rintro rfl
        rw [hp] at q
        cases q
      rw [upd_ne this]
      exact u.free b ob q n hx
    tups := fun b xs q => by
      have q1 := u.tups b xs q
      rw [upd_ne (ne_of_none q1 hn)]
      exact q1
    frzs := fun b ob x q => by
      have q1 := u.frzs b ob x q
      rw [upd_ne (ne_of_none q1 hn)]
      exact q1
    tbls := fun b ps q => by
      obtain ⟨m, q1⟩ := u.tbls b ps q
      exact ⟨m, by rw [upd_ne (ne_of_none q1 hn)]; exact q1⟩ }
theorem en_grow {P : Program} {w : World} {fs ex : List Addr} {H : Hp} {h h' : Heap} : ∀ (as : List Addr) (xs : List V) (i : Nat) (H1 : Hp), as.length = xs.length → as.Nodup → (∀ a ∈ as, h.get? a = none ∧ H1 a = none) → Un fs ex H H1 h h' → HOk P w H1 h' →
    (∀ (j : Nat) a x, as[j]? = some a → xs[j]? = some x → ∃ t u, RelV x u ∧ h'.get? a = some { cls := .type "tuple", data := .seq #[.int ((i + j : Nat) : Int) t, u] }) → Un fs ex H (tupsH H1 as xs i) h h' ∧ HOk P w (tupsH H1 as xs i) h'
  | [], _, _, _, _, _, _, u, ok, _ => ⟨u, ok⟩
  | _ :: _, [], _, _, _, _, _, u, ok, _ => ⟨u, ok⟩
  | a :: as, x :: xs, i, H1, hl, nd, fr, u, ok, g => by
    obtain ⟨t, v, rv, gt⟩ := g 0 a x rfl rfl
    have f0 := fr a List.mem_cons_self
    have nd2 := List.nodup_cons.mp nd
    refine en_grow as xs (i + 1) (upd H1 a (.tup [.int (i : Nat), x])) (by simpa using hl) nd2.2 (fun b hb => ?_) (un_add u f0.1 f0.2) (HOk.laidN ok (fun b o q => q) f0.2 ⟨by show 2 ≤ sizeLine; decide, [.int (i : Nat) t, v], .cons ⟨_, rfl⟩ (.cons rv .nil), ⟨_, gt, rfl, _, rfl⟩⟩) fun j b y h1 h2 => ?_
    · have := fr b (List.mem_cons_of_mem _ hb)
      refine ⟨this.1, ?_⟩
      rw [upd_ne (fun e : b = a => nd2.1 (e ▸ hb))]
      exact this.2
    · have := g (j + 1) b y (by simpa using h1) (by simpa using h2)
      rw [show i + 1 + j = i + (j + 1) by omega]
      exact this
theorem vals_refs : ∀ as : List Addr, Vals (as.map V.ref) (as.map Value.ref)
  | [] => .nil
  | a :: as => .cons rfl (vals_refs as)
theorem none_ge {h : Heap} {b : Addr} (hb : h.objs.size ≤ b) : h.get? b = none := by
  cases q : h.get? b with
  | none => rfl
  | some o => exact absurd (Heap.lt_size q) (Nat.not_lt.mpr hb)
/-- what list(enumerate(x)) tells -/
def rEnl (K : PySem.W.Frag) (x : V) (H : Hp) (Q : VK) : Prop := ∃ a xs, x = .ref a ∧ SqL K H a xs ∧ ∀ (as : List Addr) p, as.length = xs.length → as.Nodup → (∀ b ∈ as, H b = none) → p ∉ as → H p = none → Q (.ref p) (upd (tupsH H as xs 0) p (.lst (as.map V.ref)))
theorem pe_enl {X : Cx} {e : Expr} {te : TE} {p1 p2 pos1 pos2 : Pos} (hc : X.calm = true) (g1 : Gl X "list") (m1 : X.mg "list" = none) (g2 : Gl X "enumerate") (m2 : X.mg "enumerate" = none) (he : PE X e te) (hs : starEach [e] X.env = (false, eval e X.env) :: starEach [] X.env) :
    PE X (.Call (.Name "list" p1) [.Call (.Name "enumerate" p2) [e] [] pos2] [] pos1) (fun σ H Q => te σ H fun x H1 => rEnl X.K x H1 Q) := by
  refine ⟨fun pins s σ H Q I h => ?_⟩
  refine Call_ (ld_blt I g1 m1 (by decide +kernel : bootBuiltins "list" = some (.type "list")) (PyProof.Rows.callWith_type1 (Calls.spliced_cons ?_) rfl rfl) (by decide +kernel) (by decide +kernel))
  refine Call_ (ld_blt I g2 m2 boot_enumerate (PyProof.Rows.callWith_type1 (thn ((pa_cons he pa_nil hs).run pos2 pins s σ H (fun vs H1 => match vs with | [x] => rEnl X.K x H1 Q | _ => False) I h) fun us s1 ⟨vs, H1, I1, r1, q1⟩ => ?_) hs rfl) (by decide +kernel) (by decide +kernel))
  match vs, r1, q1 with
  | [x], .cons (b := u) rx .nil, q1 =>
    obtain ⟨a, xs, rfl, hq, q⟩ := q1
    obtain rfl : u = Value.ref a := rx
    obtain ⟨its, rv, p', hz⟩ := I1.list hq
    refine call_enumerate_list p'.isList fun h' he' hit hsz hk => Calls.spliced_nil ?_
    have hlen := rv.length
    obtain ⟨oa, ga, _⟩ := p'.isList
    have la : a < s1.heap.objs.size := Heap.lt_size ga
    refine enl_call (s := { s1 with heap := h' }) (its := its.toArray) (I.ok.hd hc) (by rw [List.size_toArray]; omega) (Nat.succ_ne_self _) (Nat.ne_of_lt (Nat.lt_succ_of_lt la)) (Nat.ne_of_lt la) he' hit (p'.isList.at fun o z => hk a o z) fun h2 tk acc c as k2 gS la2 ga2 nd fr ea => ?_
    have hsz : h'.objs.size = s1.heap.objs.size + 2 := hsz
    have k : ∀ b o, s1.heap.get? b = some o → h2.get? b = some o := fun b o z => by
      have z2 := Heap.lt_size z
      exact k2 b o (Nat.ne_of_lt (Nat.lt_succ_of_lt z2)) (Nat.ne_of_lt z2) (hk b o z)
    have fr2 : ∀ b ∈ as, s1.heap.get? b = none ∧ H1 b = none := fun b hb => by
      have h3 : h'.objs.size < b := fr b hb
      exact ⟨none_ge (by omega), I1.hok.fresh (by omega)⟩
    have la3 : as.length = xs.length := by rw [la2, List.size_toArray]; omega
    obtain ⟨u, ok⟩ := en_grow (P := X.prog) (w := X.w) (fs := X.fs) (ex := []) (H := H1) (h := s1.heap) as xs 0 H1 la3 nd fr2 (Un.kept k) (I1.hok.kept k) fun j b y h3 h4 => by
      obtain ⟨t, v, g3, g4⟩ := ga2 j b h3
      obtain ⟨w2, e1, r2⟩ := rv.get h4
      have : v = w2 := by
        have e2 : its[j]? = some v := by simpa using g3
        rw [e1] at e2
        cases e2
        rfl
      subst this
      exact ⟨t, v, r2, by rw [Nat.zero_add]; exact g4⟩
    have nS : h'.objs.size ∉ as := fun hb => Nat.lt_irrefl _ (fr _ hb)
    have fS : H1 h'.objs.size = none := I1.hok.fresh (by omega)
    have nS2 : tupsH H1 as xs 0 h'.objs.size = none := by rw [tupsH_ne as xs 0 H1 nS]; exact fS
    refine ⟨.ref h'.objs.size, _, I1.un (t' := tk) (un_add u (none_ge (by omega)) nS2) (HOk.laidN (o := .lst (as.map V.ref)) ok (fun b o q => q) nS2 ⟨by rw [List.length_map]; omega, acc.toList, c, by rw [ea]; exact vals_refs as, ?_⟩), rfl, q as _ la3 nd (fun b hb => (fr2 b hb).2) nS fS⟩
    rw [Array.toArray_toList]
    exact gS
theorem ent_new {v : Value} {o : Obj} {G : Heap → Prop} (B : Begins v o G) :
    Meets (Builtin.«enumerate.__new__» ⟨[.type "enumerate", v], []⟩) (fun _ R s => G s.heap ∧
      R (.ok (.ret (.ref (s.heap.push o).objs.size))) { s with heap := (s.heap.push o).push { cls := .type "enumerate", data := .fields #[.none, .bool false, .ref s.heap.objs.size, rawInt 0, .none, .none] } }) :=
  .of_wp fun prog w A R s z => by
    obtain ⟨hp, gg, dd, tk, os⟩ := s
    obtain ⟨z1, z2⟩ := z
    have hsub := sub_enumerate
    have begun : ∀ {A2 : Around} {E2 : Value → Shared → Prop} {Q2 : Value → Shared → Prop}, Q2 (.ref hp.objs.size) ⟨hp.push o, gg, dd, tk, os⟩ → wpAny (model prog w) A2 (pyIter v) Q2 E2 ⟨hp, gg, dd, tk, os⟩ := fun q => B.iter prog w _ _ ⟨hp, gg, dd, tk, os⟩ _ z1 q
    wp_walk using begun
    refine wpAny_stack_any fun st => wpAny_pure ?_
    split
    · rename_i c _ _ _ _ _
      cases (c == Value.type "enumerate") <;>
      · wp_walk using begun
        exact ⟨_, rfl, z2⟩
    · wp_walk using begun
      exact ⟨_, rfl, z2⟩
section
variable {prog : Program} {w : World} {A : Around} {E : Value → Shared → Prop} {s : Shared}
theorem ent_call {t : Addr} {its : Array Value} {Q : Value → Shared → Prop} (ht : s.heap.IsTuple t its)
    (hQ : ∀ h', IsEnum h' (s.heap.objs.size + 1) s.heap.objs.size 0 .none → h'.IsTupleIter s.heap.objs.size t 0 → h'.objs.size = s.heap.objs.size + 2 →
      (∀ b o, s.heap.get? b = some o → h'.get? b = some o) → Q (.ref (s.heap.objs.size + 1)) { s with heap := h' }) :
    wpAny (model prog w) A (call (.type "enumerate") [.ref t]) Q E s := by
  refine callType_new PySem.F.called_enumerate (by decide) (PySem.F.typeCall_enumerate_1 _) (PySem.F.newCall_enumerate_1 _) (fun obj => PySem.F.args_object_init_2 obj _) PySem.F.entry_enumerate_new (ent_new (begins_tuple t its)) ⟨ht, ?_⟩
  have g1 : (s.heap.push { cls := .type "tuple_iterator", data := .fields #[.ref t, .int 0 0] }).get? s.heap.objs.size = some { cls := .type "tuple_iterator", data := .fields #[.ref t, .int 0 0] } := Heap.get?_push_size _ rfl
  have zz : (s.heap.push { cls := .type "tuple_iterator", data := .fields #[.ref t, .int 0 0] }).objs.size = s.heap.objs.size + 1 := Heap.size_push ..
  show _ ∧ _
  rw [zz]
  have he := Heap.get?_push_size (s.heap.push { cls := .type "tuple_iterator", data := .fields #[.ref t, .int 0 0] }) (o := { cls := .type "enumerate", data := .fields #[.none, .bool false, .ref s.heap.objs.size, rawInt 0, .none, .none] }) rfl
  rw [zz] at he
  exact ⟨⟨_, he, rfl⟩, hQ _ he ⟨_, Heap.get?_push_of_some _ g1, rfl, rfl⟩ (by rw [Heap.size_push, zz]) fun b o q => Heap.get?_push_of_some _ (Heap.get?_push_of_some _ q)⟩
end
/-- the tuple at a, each part in a new pair -/
def Iet (K : PySem.W.Frag) (a : Addr) : It :=
  ⟨fun i H => ∃ (xs : List V) (x : V), SqT K H a xs ∧ xs[i]? = some x, fun i H v H' => ∃ T x, v = .ref T ∧ H T = none ∧ H' = upd H T (.tup [.int (i : Nat), x]) ∧ ∀ xs, SqT K H a xs → xs[i]? = some x, fun i H => ∃ xs : List V, SqT K H a xs ∧ xs.length ≤ i⟩
theorem turn_ent {P : Program} {w : World} {K : PySem.W.Frag} {elts : List Expr} {kk : Nat} {tpos : Pos} (a e it : Addr) (ha : a ≠ e) (ha2 : a ≠ it) :
    Turn P w K (.Tuple elts kk tpos) (Iet K a) [e, it] e (fun i h => (∃ old, IsEnum h e it ((i : Nat) : Int) old) ∧ h.IsTupleIter it a i ∧ e ≠ it) where
  mem := List.mem_cons_self
  obj := fun i h st b hb => by
    obtain ⟨⟨old, z1⟩, ⟨o, z2, _, z3⟩, _⟩ := st
    rcases List.mem_cons.mp hb with rfl | hb
    · exact ⟨_, z1, fun v q => nomatch q⟩
    · obtain rfl := List.mem_singleton.mp hb
      exact ⟨o, z2, fun v q => by rw [z3] at q; cases q⟩
  keep := fun i h h' st k => by
    obtain ⟨⟨old, z1⟩, z2, z3⟩ := st
    exact ⟨⟨old, k e (by simp) _ z1⟩, z2.at fun o q => k it (by simp) o q, z3⟩
  item := by
    intro X hP hw hK hc i pins s σ H E I hf st hg
    subst hP hw hK
    obtain ⟨⟨old, z1⟩, z2, z3⟩ := st
    obtain ⟨xs, x, hq, hx⟩ := hg
    obtain ⟨its, rv, pl, hz⟩ := I.tuple hq
    obtain ⟨u, hu, ru⟩ := rv.get hx
    have l1 : e < s.heap.objs.size := Heap.lt_size z1
    have l2 : it < s.heap.objs.size := by
      obtain ⟨_, q, _⟩ := z2
      exact Heap.lt_size q
    have hlt : i < its.toArray.size := by
      have := (List.getElem?_eq_some_iff.mp hu).1
      simpa using this
    refine wpAny_pyNext_enum_itemD (Draws.tuple (A := X.A.in1) (I.ok.hd hc) it a ha2 its.toArray) z1 ⟨z2, pl⟩ hlt z3 (by simp [z3, Ne.symm ha]) fun v h' tk hv ho ⟨hit', _⟩ hT hsz hk => ?_
    obtain rfl : v = u := by
      have e2 : its[i]? = some v := by simpa using hv
      rw [hu] at e2
      cases e2
      rfl
    refine ⟨_, rfl, wpAny_letOwnedTupleGo_enum (s := { s with heap := h', toks := tk + 1 }) ho fun h2 he2 sb => ?_⟩
    have g2 : h2.get? s.heap.objs.size = some { cls := .type "tuple", data := .seq #[.int i tk, v] } := (sb.2 _ (Nat.ne_of_gt l1)).trans hT
    have I1 : Inv X pins σ (upd H s.heap.objs.size (.tup [.int (i : Nat), x])) { s with heap := h2, toks := tk + 1 } :=
      I.turnedNew (ch := [e, it]) (fun b ob hb q => (sb.2 b (fun z => hb (by simp [z]))).trans (hk b ob (fun z => hb (by simp [z])) (fun z => hb (by simp [z])) q)) hf (Nat.le_refl _)
        ⟨by show 2 ≤ sizeLine; decide, [.int i tk, v], .cons ⟨_, rfl⟩ (.cons ru .nil), ⟨_, g2, rfl, _, rfl⟩⟩
    refine ⟨.ref s.heap.objs.size, _, I1, rfl, ⟨_, x, rfl, I.hok.fresh (Nat.le_refl _), rfl, fun ys hy => by rw [I.tuple_inj hy hq]; exact hx⟩, ⟨⟨v, ?_⟩, hit'.at fun o q => (sb.2 it (Ne.symm z3)).trans q, z3⟩, fun b hb => ?_⟩
    · rw [show ((i + 1 : Nat) : Int) = (i : Int) + 1 by omega]
      exact he2
    · have lb : b < s.heap.objs.size := by
        rcases List.mem_cons.mp hb with rfl | hb
        · exact l1
        · obtain rfl := List.mem_singleton.mp hb
          exact l2
      rw [upd_ne (Nat.ne_of_lt lb)]
      exact (hf b hb).1
  done := by
    intro X hP hw hK hc i pins s σ H E I hf st hg
    subst hP hw hK
    obtain ⟨⟨old, z1⟩, z2, z3⟩ := st
    obtain ⟨xs, hq, hx⟩ := hg
    obtain ⟨its, rv, pl, hz⟩ := I.tuple hq
    obtain ⟨f0, f1, f2, f3, f4, f5⟩ := hf it (by simp)
    have hl := rv.length
    have hTy : s.TypeIs (.ref e) "enumerate" := ⟨_, z1, rfl⟩
    unfold pyNext
    refine wpAny_bind (wpAny_attempt (wpAny_callSpecial?_slot (name := Str.ofString "__next__") hTy PySem.F.slot_enumerate_next (wpAny_call_entry PySem.F.slot_enumerate_next hTy PySem.F.entry_enumerate_next ?_ (PySem.F.args_enumerate_next_1 _))))
    show wpAny _ _ (field (.ref e) 2 >>= _) _ _ _
    refine wpAny_bind (wpAny_field z1 rfl (x := .ref it) rfl ?_)
    refine wpAny_bind (wpAny_nextOf_tuple_end (I.ok.hd hc) z2 pl (by simp; omega) fun h' y k ⟨o, ho, hc'⟩ => ?_)
    refine wpAny_bind (wpAny_isInstance (T := "StopIteration") (b := true) ⟨o, ho, hc'⟩ isSubtype_stop ?_)
    exact wpAny_pure ⟨rfl, I.turned (t' := s.toks) (fun b o hb q => k b o hb q) f0 f1 f3 f4 f5⟩
  self := fun A i s Q E st h => by
    obtain ⟨⟨_, z1⟩, _⟩ := st
    exact wpAny_pyIter_enum z1 h
/-- a list's or a tuple's enumeration -/
def iEnum2 (K : PySem.W.Frag) (te : TE) : TI := fun σ H S => te σ H fun x H1 => (∃ a xs, x = .ref a ∧ SqL K H1 a xs ∧ S (Ite K a) H1) ∨ ∃ a xs, x = .ref a ∧ SqT K H1 a xs ∧ S (Iet K a) H1
theorem pi_enum2 {X : Cx} {e : Expr} {te : TE} {p pos tpos : Pos} {elts : List Expr} {kk : Nat} (hg : Gl X "enumerate") (hm : X.mg "enumerate" = none) (he : PE X e te) (hs : starEach [e] X.env = (false, eval e X.env) :: starEach [] X.env) :
    PI X (.Tuple elts kk tpos) (.Call (.Name "enumerate" p) [e] [] pos) (iEnum2 X.K te) := by
  refine ⟨fun pins s σ H S I h => ?_⟩
  refine Call_ (ld_blt I hg hm boot_enumerate (PyProof.Rows.callWith_type1 (thn ((pa_cons he pa_nil hs).run pos pins s σ H (fun vs H1 => match vs with | [x] => (∃ a xs, x = .ref a ∧ SqL X.K H1 a xs ∧ S (Ite X.K a) H1) ∨ ∃ a xs, x = .ref a ∧ SqT X.K H1 a xs ∧ S (Iet X.K a) H1 | _ => False) I h) fun us s1 ⟨vs, H1, I1, r1, q1⟩ => ?_) hs rfl) (by decide +kernel) (by decide +kernel))
  match vs, r1, q1 with
  | [x], .cons (b := u) rx .nil, q1 =>
    have fpo : ∀ b ∈ [s1.heap.objs.size + 1, s1.heap.objs.size], s1.heap.objs.size ≤ b := fun b hb => by
      simp only [List.mem_cons, List.not_mem_nil, or_false] at hb
      rcases hb with rfl | rfl
      · exact Nat.le_succ _
      · exact Nat.le_refl _
    rcases q1 with ⟨a, xs, rfl, hq, q⟩ | ⟨a, xs, rfl, hq, q⟩
    · obtain rfl : u = Value.ref a := rx
      obtain ⟨its, rv, pl, hz⟩ := I1.list hq
      refine call_enumerate_list pl.isList fun h' z1 z2 z3 k => wpAny_pyIter_enum z1 ?_
      have I2 : Inv X pins σ H1 { s1 with heap := h' } := I1.kept (t' := s1.toks) k
      exact ⟨s1.heap.objs.size + 1, [s1.heap.objs.size + 1, s1.heap.objs.size], _, _, H1, rfl, I2, turn_enum a (s1.heap.objs.size + 1) s1.heap.objs.size, ⟨⟨.none, z1⟩, z2, Nat.succ_ne_self _⟩, fun b hb => I1.fpOk (fpo b hb) (I1.hok.fresh (fpo b hb)), q⟩
    · obtain rfl : u = Value.ref a := rx
      obtain ⟨its, rv, pl, hz⟩ := I1.tuple hq
      obtain ⟨oa, ga, _⟩ := id pl
      have la : a < s1.heap.objs.size := Heap.lt_size ga
      refine ent_call pl fun h' z1 z2 z3 k => wpAny_pyIter_enum z1 ?_
      have I2 : Inv X pins σ H1 { s1 with heap := h' } := I1.kept (t' := s1.toks) k
      exact ⟨s1.heap.objs.size + 1, [s1.heap.objs.size + 1, s1.heap.objs.size], _, _, H1, rfl, I2, turn_ent a (s1.heap.objs.size + 1) s1.heap.objs.size (Nat.ne_of_lt (Nat.lt_succ_of_lt la)) (Nat.ne_of_lt la), ⟨⟨.none, z1⟩, z2, Nat.succ_ne_self _⟩, fun b hb => I1.fpOk (fpo b hb) (I1.hok.fresh (fpo b hb)), q⟩
end Zw
set_option Elab.async false
set_option linter.all false
set_option maxRecDepth 100000
set_option maxHeartbeats 4000000
namespace Zw
open PySem PySem.Spec PyProof.Rows L2 HT
theorem places_back (n : Nat) : Builtin.Slice.slicePlaces ((n : Int) - 1) (-1) (-1) = n := by
  unfold Builtin.Slice.slicePlaces
  have h1 : ¬ ((-1 : Int) > 0) := by omega
  simp only [h1, if_false]
  by_cases h : (n : Int) - 1 > -1
  · rw [if_pos h]
    have : ((n : Int) - 1 - (-1) - 1) / (- -1) + 1 = n := by
      have e : (- -1 : Int) = 1 := by omega
      rw [e, Int.ediv_one]
      omega
    rw [this, Int.toNat_natCast]
  · rw [if_neg h]
    omega
theorem pick_back (xs : Array Value) : ((List.range xs.size).filterMap fun (m : Nat) => xs[(((xs.size : Int) - 1) + (m : Int) * (-1)).toNat]?).toArray = xs.toList.reverse.toArray := by
  have e : (List.range xs.size).filterMap (fun (m : Nat) => xs[(((xs.size : Int) - 1) + (m : Int) * (-1)).toNat]?) = ((List.range xs.size).map fun k => xs.size - 1 - k).filterMap (xs[·]?) := by
    rw [List.filterMap_map]
    congr 1
    funext m
    show xs[(((xs.size : Int) - 1) + (m : Int) * (-1)).toNat]? = xs[xs.size - 1 - m]?
    congr 1
    omega
  rw [e, PySem.W.krv_range, List.filterMap_reverse, PySem.W.krv_all]
section
variable {prog : Program} {w : World} {A : Around} {E : Value → Shared → Prop} {s : Shared}
theorem back_slice {sl : Addr} {vl vu vs : Value} {n : Nat} {Q : Int × Int × Nat → Shared → Prop} (hs : s.heap.IsSliceOf sl vl vu vs) (pl : IsPart vl none) (pu : IsPart vu none) (pk : IsPart vs (some (-1)))
    (h : Q ((n : Int) - 1, -1, n) s) : wpAny (model prog w) A (Builtin.Slice.sliceApplied (.ref sl) (pure (n : Int))) Q E s := by
  obtain ⟨os, hos, hcs, hds⟩ := id hs
  unfold Builtin.Slice.sliceApplied Builtin.Slice.sliceFields
  refine wpAny_bind (wpAny_bind (wpAny_field hos hds (x := vl) rfl (wpAny_bind (wpAny_field hos hds (x := vu) rfl (wpAny_bind (wpAny_field hos hds (x := vs) rfl (wpAny_pure ?_)))))))
  refine wpAny_bind (slicePart_ pk ?_)
  show wpAny _ _ (if ((-1 : Int) == 0) = true then _ else _) _ _ s
  rw [if_neg (by decide)]
  refine wpAny_bind (slicePart_ pl (wpAny_bind (slicePart_ pu (wpAny_bind (wpAny_pure ?_)))))
  show wpAny _ _ (pure ((n : Int) - 1, (-1 : Int), Builtin.Slice.slicePlaces ((n : Int) - 1) (-1) (-1))) _ _ s
  rw [places_back]
  exact wpAny_pure h
theorem tup_back {t sl : Addr} {items : Array Value} {vl vu vs : Value} {Q : Value → Shared → Prop} (ht : IsTup s.heap t items) (hs : s.heap.IsSliceOf sl vl vu vs) (pl : IsPart vl none) (pu : IsPart vu none) (pk : IsPart vs (some (-1)))
    (h : Q (.ref s.heap.objs.size) { s with heap := s.heap.push { cls := .type "tuple", data := .seq items.toList.reverse.toArray } })
    (hsz : items.size ≤ sizeLine) : wpAny (model prog w) A (getItem (.ref t) (.ref sl)) Q E s := by
  have hrev : sizeOk (.seq items.toList.reverse.toArray) := by
    show items.toList.reverse.toArray.size ≤ sizeLine
    rw [List.size_toArray, List.length_reverse, Array.length_toList]
    exact hsz
  obtain ⟨os, hos, hcs, hds⟩ := id hs
  have hTs : s.TypeIs (.ref sl) "slice" := ⟨os, hos, hcs⟩
  unfold getItem
  try with_reducible refine wpAny_holding ?_
  first | refine wpAny_bind (wpAny_pure ?_) | skip
  refine wpAny_bind (wpAny_sequenceKey ht.typeIs (by decide) ?_)
  refine wpAny_bind (wpAny_callSpecial?_slot (name := Str.ofString "__getitem__") ht.typeIs PyProof.Rows.slot_tuple_getitem
    (wpAny_call_entry PyProof.Rows.slot_tuple_getitem ht.typeIs entry_tuple_getitem ?_ (args_tuple_getitem _ _)))
  show wpAny _ _ (Builtin.Tuple.tupleItemsOf (.ref t) >>= _) _ _ s
  refine wpAny_bind (tupleItemsOf_ ht ?_)
  refine wpAny_bind (wpAny_typeOf hTs ?_)
  rw [if_pos (by decide)]
  refine wpAny_bind (back_slice (n := items.size) hs pl pu pk ?_)
  show wpAny _ _ (if (((items.size : Int) - 1) == 0 && (-1 : Int) == 1 && items.size == items.size) = true then _ else _) _ _ s
  have hno : ¬ ((((items.size : Int) - 1) == 0 && (-1 : Int) == 1 && items.size == items.size) = true) := by
    intro q
    rw [Bool.and_eq_true, Bool.and_eq_true] at q
    exact absurd q.1.2 (by decide)
  rw [if_neg hno, pick_back]
  first
    | exact wpAny_bind (m := Builtin.Tuple.tupleExact _) (wpAny_newObj_type (wpAny_pure ⟨_, rfl, wpAny_pure h⟩) hrev)
    | exact wpAny_bind (m := Builtin.Tuple.tupleExact _) (wpAny_newObj_type (wpAny_bind (wpAny_pure (wpAny_pure ⟨_, rfl, wpAny_pure h⟩))) hrev)
    | exact wpAny_bind (wpAny_bind (m := Builtin.Tuple.tupleExact _) (wpAny_newObj_type (wpAny_pure (wpAny_pure ⟨_, rfl, wpAny_pure h⟩)) hrev))
    | exact wpAny_bind (wpAny_bind (m := Builtin.Tuple.tupleExact _) (wpAny_newObj_type (wpAny_pure ⟨_, rfl, wpAny_pure h⟩) hrev))
end
def rRev (K : PySem.W.Frag) : V → Hp → VK → Prop := fun x H Q => ∃ a xs, x = .ref a ∧ ((SqL K H a xs ∧ ∀ p, H p = none → Q (.ref p) (upd H p (.lst xs.reverse))) ∨ (SqT K H a xs ∧ ∀ p, H p = none → Q (.ref p) (upd H p (.tup xs.reverse))))
end Zw
set_option Elab.async false
set_option linter.all false
set_option maxRecDepth 100000
set_option maxHeartbeats 4000000
namespace Zw
open PySem PySem.Spec PyProof.Rows L2
def setN (is : List Int) : Nat := (is.foldl step_dedup []).length
theorem firstMet_list (is : List Int) : (firstMet (fun i => is.getD i 0) is.length).length = setN is := by
  unfold firstMet setN
  have e : (List.range is.length).map (fun i => is.getD i 0) = is := by
    refine List.ext_getElem? fun i => ?_
    by_cases h : i < is.length
    · rw [List.getElem?_map, List.getElem?_range h, Option.map_some, List.getElem?_eq_getElem h]
      congr 1
      rw [List.getD_eq_getElem?_getD, List.getElem?_eq_getElem h]
      rfl
    · rw [List.getElem?_eq_none (by simpa using h), List.getElem?_eq_none (by omega)]
  rw [e]
def SetI (P : Program) (w : World) (a : Addr) (S : Int → Bool) (n : Nat) : HO := .ext fun h => h.SetOf (intKind P w) a S n
section
variable {X : Cx}
theorem setI_at {P : Program} {w : World} {h h' : Heap} {a : Addr} {S : Int → Bool} {n : Nat} (R : h.SetOf (intKind P w) a S n) (k : ∀ o, h.get? a = some o → h'.get? a = some o) : h'.SetOf (intKind P w) a S n := by
  obtain ⟨o, es, ep, t, ho, r⟩ := R
  exact ⟨o, es, ep, t, k o ho, r⟩
theorem setI_new {w : World} {P : Program} {H : Hp} {h : Heap} {a : Addr} {S : Int → Bool} {n : Nat} (R : h.SetOf (intKind P w) a S n) : ObjOk P w H h a (SetI P w a S n) := by
  have ⟨o, _, _, _, ho, _⟩ := R
  exact ⟨R, ⟨o, ho⟩, fun h1 h2 p k => setI_at p k⟩
def rSetI (K : PySem.W.Frag) (P : Program) (w : World) : List V → Hp → VK → Prop := fun xs H Q => ∃ (l : Addr) (is : List Int), xs = [.ref l] ∧ SqL K H l (is.map V.int) ∧ is.length ≤ 1000 ∧ ∀ p S, H p = none → Q (.ref p) (upd H p (SetI P w p S (setN is)))
theorem cr_setI (hc : X.calm = true) : CallR X (.type "set") (rSetI X.K X.prog X.w) := by
  intro pins s σ H xs us Q I r h
  obtain ⟨l, is, rfl, hl, hz, q⟩ := h
  obtain ⟨u, rfl, rx⟩ := Vals.one r
  cases rx
  obtain ⟨its, rv, pl, _⟩ := I.list hl
  have hi : IntsAre its.toArray.toList is := intsAre_of rv
  have hlen : its.toArray.size = is.length := by
    have e := rv.length
    rw [List.length_map] at e
    rw [List.size_toArray]
    omega
  have hb : (1001 : Nat) < scanBound := by decide +kernel
  refine PySem.call_set_list (ns := is) (I.ok.hd hc) pl.isList hi (by omega) fun h' tk hS hk => ?_
  rw [hlen, firstMet_list] at hS
  refine ⟨.ref _, _, I.laid (t' := tk) (fun b u e => hk b u (Heap.lt_size e) e) (Nat.le_refl _) (setI_new hS), rfl, q _ _ (I.hok.fresh (Nat.le_refl _))⟩
def rLenI (P : Program) (w : World) : List V → Hp → VK → Prop := fun xs H Q => ∃ (a : Addr) (S : Int → Bool) (n : Nat), xs = [.ref a] ∧ H a = some (SetI P w a S n) ∧ Q (.int (n : Nat)) H
theorem cr_lenI : CallR X (.builtin "len") (rLenI X.prog X.w) := by
  intro pins s σ H xs us Q I r h
  obtain ⟨a, S, n, rfl, ha, q⟩ := h
  obtain ⟨u, rfl, rx⟩ := Vals.one r
  cases rx
  obtain ⟨o, es, ep, t, ho, hex, hd, _, _, hb, hf, hn⟩ := (I.hok a _ ha).1
  subst hn
  have hbig : (es.size : Int) < 2 ^ 63 := by
    have h1 := fits_of_scanBound hb
    have h2 : scanBound ≤ 2 ^ 62 := by decide +kernel
    omega
  exact Calls.call_function_entry kind_len plain_len entry_len (args_len1 _) (wpAny_len_body_set ho hex hd hf hbig ⟨.int _, H, I.tok _, ⟨_, rfl⟩, q⟩)
/-- what len(set(xs)) tells -/
def rLenL (K : PySem.W.Frag) (P : Program) (w : World) : V → Hp → VK → Prop := fun x H Q => rSetI K P w [x] H fun v H2 => rLenI P w [v] H2 Q
theorem pe_lenL {e : Expr} {te : TE} {p1 p2 pos1 pos2 : Pos} (hc : X.calm = true) (g1 : Gl X "len") (m1 : X.mg "len" = none) (g2 : Gl X "set") (m2 : X.mg "set" = none) (he : PE X e te) (hs : starEach [e] X.env = (false, eval e X.env) :: starEach [] X.env) :
    PE X (.Call (.Name "len" p1) [.Call (.Name "set" p2) [e] [] pos2] [] pos1) (fun σ H Q => te σ H fun x H1 => rLenL X.K X.prog X.w x H1 Q) := by
  have one : PE X (.Call (.Name "set" p2) [e] [] pos2) _ := pe_callTy (cr_setI hc) g2 m2 PyProof.Rows.boot_set (pa_cons he pa_nil hs) (by decide) (by decide) hs
  have two : PE X (.Call (.Name "len" p1) [.Call (.Name "set" p2) [e] [] pos2] [] pos1) _ := pe_callB cr_lenI g1 m1 PySem.boot_len (pa_cons one pa_nil)
  exact two
end
end Zw
set_option Elab.async false
set_option linter.all false
set_option maxRecDepth 100000
set_option maxHeartbeats 4000000
namespace Zw
open PySem PySem.Spec PyProof.Rows L2 HT
theorem ext_tup (l : Addr) (xs : Array Value) (n : Nat) (b : Addr) (ys : Array Value) (hs0 : ¬(!xs.isEmpty && Builtin.List.listTooLong (xs.size + ys.size)) = true) (hs1 : xs.size ≤ sizeLine) (hs2 : xs.size + ys.size ≤ sizeLine + 1) :
    Meets (Builtin.«list.extend» ⟨[.ref l, .ref b], []⟩) (fun _ R s => s.heap.get? l = some { cls := .type "list", dict := none, data := .seq xs n, slots := #[] } ∧ IsTup s.heap b ys ∧ R (.ok (.ret Value.none)) { s with heap := s.heap.update l (Obj.mapSeq fun x => x ++ ys), toks := s.toks }) :=
  .of_wp fun prog w A R s h => by
    obtain ⟨hp, g, d, tk, os⟩ := s
    obtain ⟨hl, ⟨⟨cls, dd, data, sl⟩, hb, hc, n2, hd⟩, h⟩ := h
    simp only at hc hd
    subst hc hd
    have f1 := PySem.AutoSeq1.idx_int
    have f2 := PySem.AutoSeq1.sub_tuple_tuple
    have f3 := PySem.AutoSeq1.sub_list_list
    have f4 := PySem.AutoSeq1.sub_tuple_list
    have f5 := PySem.AutoSeq1.sub_list_tuple
    have hz' : (xs ++ ys).size ≤ sizeLine + 1 := by rw [Array.size_append]; exact hs2
    wp_walk using (PySem.wpAny_updateSeq hl rfl (hz := hs1) (_hz' := hz')), PySem.AutoSeq1.wpAny_loadPart' hl, PySem.AutoSeq1.wpAny_loadPart' hb
    exact ⟨_, rfl, h⟩
def rExtendT (K : PySem.W.Frag) : V → List V → Hp → VK → Prop := fun x vs H Q => ∃ l b xs zs, x = .ref l ∧ vs = [.ref b] ∧ H l = some (.lst xs) ∧ SqT K H b zs ∧ xs.length + zs.length ≤ sizeLine ∧ Q .non (upd H l (.lst (xs ++ zs)))
theorem mt_extendT {X : Cx} : MtM X "list.extend" fun x vs H Q => rExtend x vs H Q ∨ rExtendT X.K x vs H Q := by
  intro pins s σ H x vs v us Q I rx rv h
  rcases h with h | h
  · exact mt_extend pins s σ H x vs v us Q I rx rv h
  obtain ⟨l, b, xs, zs, rfl, rfl, hH, hB, hz, q⟩ := h
  cases rx
  obtain ⟨u, rfl, ru⟩ := rv.one
  cases ru
  obtain ⟨z, its, n, r, hl, e⟩ := I.lstM hH
  obtain ⟨its2, r2, e2, _⟩ := I.tuple hB
  have l1 := r.length
  have l2 := r2.length
  have hsz : its.toArray.size + its2.toArray.size ≤ sizeLine := by rw [List.size_toArray, List.size_toArray]; omega
  have hlong : ¬ (!its.toArray.isEmpty && Builtin.List.listTooLong (its.toArray.size + its2.toArray.size)) = true := by
    rw [notLongL hsz, Bool.and_false]
    exact Bool.false_ne_true
  refine call_meets F.slot_list_extend ⟨_, e, rfl⟩ F.entry_list_extend (F.args_list_extend_2 _ _)
    (ext_tup l its.toArray n b its2.toArray hlong (by rw [List.size_toArray]; omega) (by omega)) ⟨e, e2, ?_⟩
  refine ⟨.non, _, I.lset (its' := its ++ its2) hH e (by simp) (r.append r2) ?_, rfl, q⟩
  rw [List.length_append]
  omega
end Zw
set_option Elab.async false
set_option linter.all false
set_option maxRecDepth 100000
set_option maxHeartbeats 4000000
namespace Zw
open PySem PySem.Spec PyProof.Rows L2
section
variable {X : Cx}
def rRemD (K : PySem.W.Frag) : V → List V → Hp → VK → Prop := fun x xs H Q => ∃ (a : Addr) (y : V) (d : PyData) (vs : List V) (ds : List PyData) (j : Nat) (z : PyData), x = .ref a ∧ xs = [y] ∧ H a = some (.lst vs) ∧ DpAll K H vs ds ∧ Dp K H y d ∧
  SeqAt.shaped (.list ds) = true ∧ SeqAt.shaped d = true ∧ ds[j]? = some z ∧ PyData.eqv z d = true ∧ (∀ (m : Nat) (z' : PyData), m < j → ds[m]? = some z' → PyData.eqv z' d = false) ∧ Q .non (upd H a (.lst (vs.eraseIdx j)))
theorem mt_removeD (hu : X.A.units + 65 < cLine) : MtR X "list.remove" (rRemD X.K) := by
  intro pins s σ H x xs v us Q I rx rxs h
  obtain ⟨a, y, d, ws, ds, j, z, rfl, rfl, hH, hl, hy, sl, sd, hz, hzj, hno, q⟩ := h
  cases rx
  cases rxs with
  | cons ry rt =>
    rename_i uy ut
    cases rt
    obtain ⟨bs, r1⟩ := Dp.reads I d y uy hy ry
    have hxs : PyData.canLayAll0 ds = true := SeqAt.canLay_of_shaped sl
    have hroom : X.A.units + 1 + min (PyData.depthAll ds) d.depth < cLine := room_in_shaped sd hu
    obtain ⟨zl, its, n, r, hlen, e⟩ := I.lstM hH
    obtain ⟨as, h4⟩ := Dp.readsAll I ds _ its hl r
    have hn : its.length = ds.length := SeqAt.ReadsAll.length ds its as h4
    have hmap : its.map (SeqAt.readOf s.heap) = ds := SeqAt.readsAll_map ds its as hxs h4
    obtain ⟨hjd, _⟩ := List.getElem?_eq_some_iff.mp hz
    have hjl : j < its.length := by omega
    have hj : j < its.toArray.size := by simpa using hjl
    have at_ : ∀ (m : Nat) (hm : m < its.toArray.size) (z' : PyData), ds[m]? = some z' → SeqAt.readOf s.heap its.toArray[m] = z' := by
      intro m hm z' hz'
      have hml : m < its.length := by simpa using hm
      rw [← hmap, List.getElem?_map, List.getElem?_eq_getElem hml] at hz'
      have e1 : SeqAt.readOf s.heap its[m] = z' := Option.some.inj (show some (SeqAt.readOf s.heap its[m]) = some z' from hz')
      simpa using e1
    refine call_meets PySem.F.slot_list_remove ⟨_, e, rfl⟩ PySem.F.entry_list_remove (PySem.F.args_list_remove_2 _ _)
      (SeqAt.list_removeAt a its.toArray n none #[] uy (fun u => PyData.eqv (SeqAt.readOf s.heap u) d) j hj ?_ ?_ (by rw [List.size_toArray]; omega)) ⟨e, SeqAt.items_eqAt (vs := its.toArray) (show ReadsAll s.heap its.toArray.toList ds as from h4) r1 hxs (SeqAt.canLay_of_shaped sd) hroom, ?_⟩
    · show PyData.eqv (SeqAt.readOf s.heap its.toArray[j]) d = true
      rw [at_ j hj z hz]
      exact hzj
    · intro m hm hmj
      have hmd : m < ds.length := by omega
      have hz' : ds[m]? = some ds[m] := List.getElem?_eq_getElem hmd
      show PyData.eqv (SeqAt.readOf s.heap its.toArray[m]) d = false
      rw [at_ m hm _ hz']
      exact hno m _ hmj hz'
    · refine ⟨.non, _, I.lset (its' := its.eraseIdx j) (t' := s.toks) hH e ?_ (r.eraseIdx j) ?_, rfl, q⟩
      · show its.toArray.eraseIdxIfInBounds j = (its.eraseIdx j).toArray
        rw [List.eraseIdxIfInBounds_toArray]
      · have := List.length_eraseIdx_le (l := ws) (i := j)
        omega
/-- a dict and an empty one -/
def rEqN : R2 := fun x y H Q => ∃ a b ks, x = .ref a ∧ y = .ref b ∧ H a = some (.dK ks) ∧ H b = some (.dK []) ∧ Q (.bl ks.isEmpty) H
def rNeN : R2 := fun x y H Q => ∃ a b ks, x = .ref a ∧ y = .ref b ∧ H a = some (.dK ks) ∧ H b = some (.dK []) ∧ Q (.bl (!ks.isEmpty)) H
theorem op_eqN (hu : X.A.units < cLine) : OpR X (compareOp .Eq) rEqN := by
  intro pins s σ H x y v u Q I rx ry h
  obtain ⟨a, b, ks, rfl, rfl, ea, eb, q⟩ := h
  obtain rfl : v = Value.ref a := rx
  obtain rfl : u = Value.ref b := ry
  obtain ⟨_, ya, va, ra, da⟩ := (show ObjOk X.prog X.w H s.heap a (.dK ks) from I.hok a _ ea)
  obtain ⟨_, yb, vb, rb, db⟩ := (show ObjOk X.prog X.w H s.heap b (.dK []) from I.hok b _ eb)
  have hb : vb.length = 0 := by rw [← rb.length]; rfl
  have ha : va.length = ks.length := ra.length.symm
  have hv : va.length = vb.length → va = [] := fun e => List.length_eq_zero_iff.mp (by omega)
  refine PySem.W.keq_eq (knd := mixKind X.prog X.w) (r := true) ya yb da db hu (fun e => by rw [hv e]; exact .nil) (fin_bl I q ?_)
  rw [Bool.and_true, hb, ha]
  cases ks <;> rfl
theorem op_neN (hu : X.A.units < cLine) : OpR X (compareOp .NotEq) rNeN := by
  intro pins s σ H x y v u Q I rx ry h
  obtain ⟨a, b, ks, rfl, rfl, ea, eb, q⟩ := h
  obtain rfl : v = Value.ref a := rx
  obtain rfl : u = Value.ref b := ry
  obtain ⟨_, ya, va, ra, da⟩ := (show ObjOk X.prog X.w H s.heap a (.dK ks) from I.hok a _ ea)
  obtain ⟨_, yb, vb, rb, db⟩ := (show ObjOk X.prog X.w H s.heap b (.dK []) from I.hok b _ eb)
  have hb : vb.length = 0 := by rw [← rb.length]; rfl
  have ha : va.length = ks.length := ra.length.symm
  have hv : va.length = vb.length → va = [] := fun e => List.length_eq_zero_iff.mp (by omega)
  refine PySem.W.keq_ne (knd := mixKind X.prog X.w) (r := true) ya yb da db hu (fun e => by rw [hv e]; exact .nil) (fin_bl I q ?_)
  rw [Bool.and_true, hb, ha]
  cases ks <;> rfl
/-- what list(range(x)) tells -/
def rRgl (x : V) (H : Hp) (Q : VK) : Prop := ∃ n : Nat, x = .int (n : Nat) ∧ n ≤ 1000 ∧ ∀ q, H q = none → Q (.ref q) (upd H q (.lst ((List.range n).map fun i => V.int (i : Nat))))
theorem pe_rgl {e : Expr} {te : TE} {p1 p2 pos1 pos2 : Pos} (hc : X.calm = true) (g1 : Gl X "list") (m1 : X.mg "list" = none) (g2 : Gl X "range") (m2 : X.mg "range" = none) (he : PE X e te) (hs : starEach [e] X.env = (false, eval e X.env) :: starEach [] X.env) :
    PE X (.Call (.Name "list" p1) [.Call (.Name "range" p2) [e] [] pos2] [] pos1) (fun σ H Q => te σ H fun x H1 => rRgl x H1 Q) := by
  have he' : PE X e (fun σ H S => ∃ Qx : VK, te σ H Qx ∧ ∀ x H1, Qx x H1 → S x H1) := ⟨fun pins s σ H S I ⟨Qx, h, f⟩ => thn (he.run pins s σ H Qx I h) fun v s1 ⟨x, H1, I1, r1, q1⟩ => ⟨x, H1, I1, r1, f _ _ q1⟩⟩
  have h := pe_listRg (p := p1) (pos := pos1) hc g1 m1 (prg_1 (p := p2) (pos := pos2) g2 m2 he' hs)
  refine ⟨fun pins s σ H Q I q => h.run pins s σ H Q I ⟨_, q, fun x H1 ⟨n, e1, hn, hq⟩ => ⟨(n : Int), e1, RgOk.of_le (Int.le_refl _) (by omega) (by omega) (by omega), fun p hp => ?_⟩⟩⟩
  have e2 : rgV 0 (n : Int) = (List.range n).map fun i => V.int (i : Nat) := by
    unfold rgV
    rw [show ((n : Int) - 0).toNat = n by omega]
    exact List.map_congr_left fun i _ => by rw [Int.zero_add]
  rw [e2]
  exact hq p hp
/-- how long a dict is -/
theorem call_lenD : CallR X (.builtin "len") (fun xs H Q => ∃ a ks, xs = [.ref a] ∧ H a = some (.dK ks) ∧ Q (.int (ks.length : Nat)) H) := by
  intro pins s σ H xs us Q I r h
  obtain ⟨a, ks, rfl, ea, q⟩ := h
  obtain ⟨u, rfl, rx⟩ := vals1 r
  obtain rfl : u = Value.ref a := rx
  obtain ⟨z, ya, va, ra, da⟩ := (show ObjOk X.prog X.w H s.heap a (.dK ks) from I.hok a _ ea)
  have hz := PySem.sizeLine_eq
  have hl := line63
  have hv : va.length = ks.length := ra.length.symm
  refine PySem.call_len_dict (knd := mixKind X.prog X.w) ya da (by omega) ?_
  rw [hv]
  exact ⟨.int (ks.length : Nat), H, I.tok _, ⟨_, rfl⟩, q⟩
end
/-- the cells of a block that is made at s -/
abbrev bCells (X : Cx) (s : Shared) (sc : Scope) : List (Str × Addr) := cellsFrom (s.heap.objs.size + 1) sc.names (cloFrom X.env.cells sc.names [])
/-- its context -/
abbrev bCx (X : Cx) (s : Shared) (H : Hp) (sc : Scope) (fp : List Addr) : Cx := X.blk s H sc (compEnvC sc (bCells X s sc) s.heap.objs.size X.env) fp
section
variable {X : Cx} {pins : List (Addr × Obj)} {σ : L2.St} {H : Hp} {s : Shared}
theorem cellsOff_blk {scope : Scope} {own : List (Str × Nat)} {H0 : Hp} {fp : List Addr} (hco : CellsOff X) (I : Inv X pins σ H s) (ok : BlkOk X.N X.env.scope scope own) : CellsOff (bCx X s H0 scope fp) := fun pins' σ' H' s' J x c hc => by
  have hc : (cellsFrom (s.heap.objs.size + 1) scope.names (cloFrom X.env.cells scope.names [])).lookup x = some c := hc
  rw [← Heap.size_push s.heap { cls := .type "dict", data := .dict #[] }] at hc
  rcases cells_mem (PySem.mem_of_lookup hc) with old | ⟨_, new, _⟩
  · -- one of the frame's own
    rcases cloFrom_mem old with no | ⟨isFree, rfl⟩
    · cases no
    · have there : ∃ d, X.env.cells.lookup x = some d := (ok.free _ isFree rfl).elim (fun k => I.ok.has _ (.inl k)) fun k => I.ok.has _ (.inr k)
      obtain ⟨d, hd⟩ := there
      have z := hco pins σ H s I x d hd
      rw [hd]
      exact z
  · rw [Heap.size_push] at new
    have J0 : (bCx X s H0 scope fp).s_0 = s := rfl
    have young : ∀ {o : Obj}, s.heap.get? c ≠ some o := fun {o} e => by
      exact absurd (Nat.lt_of_lt_of_le (Heap.lt_size e) (Nat.le_of_succ_le new)) (Nat.lt_irrefl _)
    refine ⟨?_, fun hm => ?_⟩
    · cases e : X.base.get? c with
      | none => rfl
      | some o => exact absurd (J.ok.bs c o e).1 young
    · rcases List.mem_cons.mp (J.stkSub c hm) with z | z
      · exact J.cne x c (by rw [Heap.size_push] at hc; exact hc) z
      · obtain ⟨_, o2, e2, _⟩ := J.ok.funs.mem z
        exact absurd e2 young
/-- what such a block's loop keeps, at a turn, by a measure -/
def BlkAt (B : Cx) (fp : List Addr) (σ0 : L2.St) (tn : Nat → Heap → Prop) (W : Nat → Nat → Hp → Prop) (n : Nat) (s : Shared) : Prop := ∃ i H, Inv B [] σ0 H s ∧ tn i s.heap ∧ (∀ b ∈ fp, H b = none) ∧ W i n H
theorem fp_blk {B : Cx} {fp : List Addr} (hx : B.ex = fp) (hp : B.pn = []) (I : Inv B [] σ H s) (hn : ∀ b ∈ fp, H b = none) : ∀ b ∈ fp, FpOk B [] H b := by
  subst hx
  intro b hb
  obtain ⟨n1, n2⟩ := I.ok.exf b hb
  refine ⟨hn b hb, n1, I.ok.exfs b hb, .inl hb, n2, ?_⟩
  rw [hp]
  intro p z
  cases z
/-- the block's loop -/
theorem blk_loop {H3 : Hp} {s3 s4 : Shared} {scope : Scope} {ce : Env} {fp : List Addr} {tg elt iter : Expr} {ifs : List Expr} {g : TG} {tt : TT} {te : TE} {it D : Addr} {tn : Nat → Heap → Prop} {J : It} {own : List (Str × Nat)} {pos : Pos}
    {W : Nat → Nat → Hp → Prop} {Q : Hp → Prop} {R : Result → Shared → Prop} {m0 : Nat} (hc : X.calm = true) (T : Turn X.prog X.w X.K tg J fp it tn)
    (pg : PG (X.blk s3 H3 scope ce fp) tg g) (pt : PTs (X.blk s3 H3 scope ce fp) ifs tt) (pe : PE (X.blk s3 H3 scope ce fp) elt te)
    (turn : ∀ i m H, W i m H → (J.stop i H ∧ Q H) ∨ (J.go i H ∧ ∃ Nx : Hp → Prop, (∀ H', Nx H' → ∃ m', m' < m ∧ W (i + 1) m' H') ∧ ∀ x H', J.yld i H x H' → g x (wipe σ (own.map (·.2))) H' fun σ2 H2 => wipe σ2 (own.map (·.2)) = wipe σ (own.map (·.2)) ∧ tt σ2 H2 fun b H3 =>
      if b = true then te σ2 H3 fun y H4 => ∃ acc, H4 D = some (.lst acc) ∧ acc.length < sizeLine ∧ Nx (upd H4 D (.lst (acc ++ [y]))) else Nx H3))
    (end_ : ∀ s' H', Inv (X.blk s3 H3 scope ce fp) [] (wipe σ (own.map (·.2))) H' s' → Q H' → R (.ok .next) s')
    (start : BlkAt (X.blk s3 H3 scope ce fp) fp (wipe σ (own.map (·.2))) tn W m0 s4) :
    codeAny (model X.prog X.w) X.A (.compLoop (.ListComp elt [⟨tg, iter, ifs, 0⟩] scope pos) 0 (.ref it) (.ref D) ce) R s4 := by
  refine compLoop_any (BlkAt (X.blk s3 H3 scope ce fp) fp (wipe σ (own.map (·.2))) tn W) (fun n sA hA => ?_) m0 start
  obtain ⟨i, HA, IA, stA, nA, wA⟩ := hA
  have FA := fp_blk rfl rfl IA nA
  rcases turn i n HA wA with hs | hg
  · refine thnF (T.done (X.blk s3 H3 scope ce fp) rfl rfl rfl hc i [] sA _ HA (fun _ _ => False) IA FA stA hs.1) fun r sB hB => ?_
    obtain ⟨rfl, IB⟩ := hB
    exact end_ sB HA IB hs.2
  · obtain ⟨go, Nx, less_, step⟩ := hg
    refine thnF (T.item (X.blk s3 H3 scope ce fp) rfl rfl rfl hc i [] sA _ HA (fun _ _ => False) IA FA stA go) fun r sB hB => ?_
    obtain ⟨u, rfl, hB⟩ := hB
    refine thnF hB fun _ sC hC => ?_
    obtain ⟨x, HC, IC, rC, yC, stC, nC⟩ := hC
    -- the iterator's things are pinned meanwhile
    have IP := IC.pinned (fp_blk rfl rfl IC nC) (T.obj _ _ stC)
    have back : ∀ {σZ : L2.St} {sZ : Shared} {HZ : Hp}, wipe σZ (own.map (·.2)) = wipe σ (own.map (·.2)) → Inv (X.blk s3 H3 scope ce fp) ([] ++ pinsAt fp sC.heap) σZ HZ sZ → Nx HZ → ∃ m, m < n ∧ BlkAt (X.blk s3 H3 scope ce fp) fp (wipe σ (own.map (·.2))) tn W m sZ := fun {σZ sZ HZ} hw IZ nx => by
      obtain ⟨m', lt, w'⟩ := less_ HZ nx
      have same : ∀ b ∈ fp, ∀ o, sC.heap.get? b = some o → sZ.heap.get? b = some o ∧ HZ b = none := fun b hb o e => by
        have z := IZ.pin (b, o) (List.mem_append_right _ (List.mem_append_right _ (mem_pinsAt hb e)))
        exact ⟨z.1, z.2.1⟩
      have ln : (wipe σ (own.map (·.2))).length = σZ.length := by rw [← hw, wipe_length]
      have Iw := (IZ.unpinned (pins := [])).weak ln fun j v e => by
        rw [← hw] at e
        exact (wipe_some e).1
      refine ⟨m', lt, i + 1, HZ, Iw, T.keep _ _ _ stC fun b hb o e => (same b hb o e).1, fun b hb => ?_, w'⟩
      obtain ⟨o, e, _⟩ := T.obj _ _ stC b hb
      exact (same b hb o e).2
    refine thnF (pg.run _ sC _ HC x u _ IP rC (step x HC yC)) fun _ sD hD => ?_
    obtain ⟨σD, HD, ID, hw, qD⟩ := hD
    refine thnF (pt.run _ sD σD HD _ ID qD) fun b sE hE => ?_
    obtain ⟨HE, IE, qE⟩ := hE
    cases b with
    | false => exact back hw IE (by simpa using qE)
    | true =>
      have qE : te σD HE fun y H4 => ∃ acc, H4 D = some (.lst acc) ∧ acc.length < sizeLine ∧ Nx (upd H4 D (.lst (acc ++ [y]))) := by simpa using qE
      refine thnF (pe.run _ sE σD HE _ IE qE) fun z sF hF => ?_
      obtain ⟨y, HF, IF, rF, acc, at_, short, nx⟩ := hF
      exact app_ok (X := X.blk s3 H3 scope ce fp) IF at_ short rF fun sG IG => back hw IG nx
/-- the comprehension, what is read of its block told by the block as it is made -/
theorem blk_core {Q : VK} {elt tg iter : Expr} {ifs : List Expr} {scope : Scope} {own : List (Str × Nat)} {pos pos' : Pos} {wi : TI} {g : TG} {tt : TT} {te : TE} {use : Option (Value → Sem Unit)} {Qf : Value → Shared → Prop}
    (hc : X.calm = true) (hN : X.N.Nodup) (I : Inv X pins σ H s) (hi : PI X tg iter wi) (ok : BlkOk X.N X.env.scope scope own)
    (hb : ∀ (H : Hp) (s : Shared) (fp : List Addr), Inv X pins σ H s → (∀ b ∈ fp, FpOk X pins H b) → PG (bCx X s H scope fp) tg g ∧ PTs (bCx X s H scope fp) ifs tt ∧ PE (bCx X s H scope fp) elt te) (hs : ∀ x, foldedSetIterable iter X.env x = pure x)
    (h : tLc wi g tt te (own.map (·.2)) σ H Q)
    (end_ : ∀ D C s' m H', Inv X pins σ H' s' → Q (.ref D) H' → s'.heap.Ns C m → FpOk X pins H' C → compPost (model X.prog X.w) X.A X.xe use Qf (.ref D) C (.ok .next) s') :
    wpAny (model X.prog X.w) X.A (comprehension (.ListComp elt [⟨tg, iter, ifs, 0⟩] scope pos) scope X.env pos' (newList []) false (eval iter X.env) use) Qf X.xe s := by
  have captured : ∀ y ∈ scope.names, y.2 = .free → ∃ c, X.env.cells.lookup y.1 = some c := fun y hy e =>
    (ok.free y hy e).elim (fun k => I.ok.has _ (.inl k)) fun k => I.ok.has _ (.inr k)
  refine wpAny_comprehension_free (use := use) rfl hs (closure_ok captured) ok.kind (fun y hy e => (ok.uniq y hy).trans (by rw [e])) (thn (hi.run pins s σ H _ I h) fun xv sA hA => thn hA fun itv sB hB => ?_)
  obtain ⟨it, fp, tn, J, HB, rfl, IB, T, stB, fB, q⟩ := hB
  refine wpAny_newObj_type (newEnv_comp ?_) (by show 0 ≤ sizeLine; decide)
  obtain ⟨D, eD⟩ : ∃ D, sB.heap.objs.size = D := ⟨_, rfl⟩
  rw [eD]
  have nD : HB D = none := IB.hok.fresh (Nat.le_of_eq eD)
  obtain ⟨W, ⟨m0, w0⟩, turn⟩ := q D nD
  generalize eC : ({ sB with heap := sB.heap.push { cls := .type "list", data := .seq ([] : List Value).toArray } } : Shared) = sC
  have hC : sC.heap = sB.heap.push { cls := .type "list", data := .seq ([] : List Value).toArray } := by rw [← eC]
  have IC : Inv X pins σ (upd HB D (.lst [])) sC := by
    rw [← eC]
    exact IB.laid (t' := sB.toks) (fun b o e => Heap.get?_push_of_some _ e) (Nat.le_of_eq eD) ⟨Nat.zero_le _, [], 0, .nil, by rw [← eD]; exact Heap.get?_push_size _ rfl⟩
  have fC : ∀ b ∈ fp, FpOk X pins (upd HB D (.lst [])) b ∧ b < sC.heap.objs.size := fun b hb => by
    obtain ⟨o, e, _⟩ := T.obj _ _ stB b hb
    have lt := Heap.lt_size e
    obtain ⟨f1, f2⟩ := fB b hb
    refine ⟨⟨?_, f2⟩, by rw [hC, Heap.size_push]; exact Nat.lt_succ_of_lt lt⟩
    rw [upd_ne (by rw [← eD]; exact Nat.ne_of_lt lt)]
    exact f1
  have stC : tn 0 sC.heap := T.keep _ _ _ stB fun b _ o e => by rw [hC]; exact Heap.get?_push_of_some _ e
  obtain ⟨pg, pt, pe⟩ := hb _ sC fp IC fun b hb => (fC b hb).1
  have ID := block_start IC ok hN fC
  show codeAny _ _ (.compStart (.ListComp elt [⟨tg, iter, ifs, 0⟩] scope pos) 0 (.ref it) (.ref D) (compEnvC scope (bCells X sC scope) sC.heap.objs.size X.env)) (compPost (model X.prog X.w) X.A X.xe use Qf (.ref D) sC.heap.objs.size) { sC with heap := pushCells (sC.heap.push { cls := .type "dict", data := .dict #[] }) scope.names }
  have stD : tn 0 (pushCells (sC.heap.push { cls := .type "dict", data := .dict #[] }) scope.names) := T.keep _ _ _ stC fun b _ o e => pushCells_keeps _ _ _ _ (Heap.get?_push_of_some _ e)
  have loop := blk_loop (R := compPost (model X.prog X.w) X.A X.xe use Qf (.ref D) sC.heap.objs.size) (iter := iter) (pos := pos) (Q := fun H' => Q (.ref D) H') hc T pg pt pe turn (fun s' H' IZ qZ => ?_) ⟨0, _, ID, stD, fun b hb => (fC b hb).1.1, w0⟩
  · exact codeAny_compStart_list loop (T.self X.A 0 _ _ _ stD loop)
  · have nC : H' sC.heap.objs.size = none := IZ.free
    obtain ⟨m, hn, _⟩ := IZ.loc
    exact end_ D sC.heap.objs.size s' m H' (IC.call' (ch := fp) IZ.os IZ.base IZ.hok IZ.bare fun b hb => by
      obtain ⟨_, f1, f2, f3, f4, f5⟩ := (fC b hb).1
      exact ⟨f3, f1, f4, f5⟩) qZ hn (IC.fpOk (Nat.le_refl _) nC)
/-- as a value -/
theorem pe_lcZ {elt tg iter : Expr} {ifs : List Expr} {scope : Scope} {own : List (Str × Nat)} {pos : Pos} {wi : TI} {g : TG} {tt : TT} {te : L2.St → TE} (hc : X.calm = true) (hN : X.N.Nodup) (hi : PI X tg iter wi) (ok : BlkOk X.N X.env.scope scope own)
    (hb : ∀ (pins : List (Addr × Obj)) (σ : L2.St) (H : Hp) (s : Shared) (fp : List Addr), Inv X pins σ H s → (∀ b ∈ fp, FpOk X pins H b) → PG (bCx X s H scope fp) tg g ∧ PTs (bCx X s H scope fp) ifs tt ∧ PE (bCx X s H scope fp) elt (te σ)) (hs : ∀ x, foldedSetIterable iter X.env x = pure x) :
    PE X (.ListComp elt [⟨tg, iter, ifs, 0⟩] scope pos) (fun σ => tLc wi g tt (te σ) (own.map (·.2)) σ) := ⟨fun pins s σ H Q I h => by
  rw [eval_ListComp]
  refine blk_core hc hN I hi ok (hb pins σ) hs h fun D C s' m H' IZ q hn f => ⟨m, hn, fun h2 sb => ⟨.ref D, H', ?_, rfl, q⟩⟩
  exact IZ.turned (t' := s'.toks) (fun b o ne e => (sb.2 b ne).trans e) f.1 f.2.1 f.2.2.2.1 f.2.2.2.2.1 f.2.2.2.2.2⟩
/-- name = [..] on one row -/
theorem ps_setLcZ {i : Nat} {y : Str} {py : Pos} {elt tg iter : Expr} {ifs : List Expr} {scope : Scope} {own : List (Str × Nat)} {pos spos : Pos} {wi : TI} {g : TG} {tt : TT} {te : L2.St → TE} (hc : X.calm = true) (hN : X.N.Nodup) (hy : X.N[i]? = some y) (hyl : X.env.scope.names.lookup y = some .local)
    (hsw : swapsWith (.ListComp elt [⟨tg, iter, ifs, 0⟩] scope pos) (some (.Name y py)) spos.line X.env = pure true) (hi : PI X tg iter wi) (ok : BlkOk X.N X.env.scope scope own)
    (hb : ∀ (pins : List (Addr × Obj)) (σ : L2.St) (H : Hp) (s : Shared) (fp : List Addr), Inv X pins σ H s → (∀ b ∈ fp, FpOk X pins H b) → PG (bCx X s H scope fp) tg g ∧ PTs (bCx X s H scope fp) ifs tt ∧ PE (bCx X s H scope fp) elt (te σ)) (hs : ∀ x, foldedSetIterable iter X.env x = pure x) :
    PS X (.Assign [.Name y py] (.ListComp elt [⟨tg, iter, ifs, 0⟩] scope pos) spos) (tAsg (fun σ => tLc wi g tt (te σ) (own.map (·.2)) σ) (gName i)) := ⟨fun pins s σ H D I h => by
  rw [exec_Assign_Name_used _ _ _ _ hsw]
  refine wpAny_bind (wpAny_standAt (wpAny_bind ?_))
  show wpAny _ X.A (do let _ ← comprehension (.ListComp elt [⟨tg, iter, ifs, 0⟩] scope pos) scope X.env (firstIterPos [⟨tg, iter, ifs, 0⟩] pos) (newList []) false (eval iter X.env) (some (assign (.Name y py) X.env))) _ _ s
  have h' : tLc wi g tt (te σ) (own.map (·.2)) σ H fun x H1 => gName i x σ H1 D.nx := h
  refine wpAny_bind (thn (blk_core (Qf := fun _ s' => SP X pins D .next s') hc hN I hi ok (hb pins σ) hs h' fun L C sZ m HZ IZ q hn f => ?_) fun _ s' hq => wpAny_pure (wpAny_pure hq))
  show wpAny _ _ (assign (.Name y py) X.env (.ref L)) _ _ _
  obtain ⟨f0, f1, f2, f3, f4, f5⟩ := f
  refine wpAny_assign_Name (store_ok2 (v := V.ref L) IZ hN hy (.inl hyl) rfl (fun sY IY hY => ?_) (.inr hyl))
  obtain ⟨a, sb, ha⟩ := hY
  have neC : C ≠ a := ha.elim (fun z => by rw [z]; exact f1) fun z w => f4 y a z w.symm
  exact ⟨m, hn.sameBut sb neC, fun h3 sb3 => ⟨_, HZ, IY.turned (t' := sY.toks) (fun b o ne e => (sb3.2 b ne).trans e) f0 f1 f3 f4 f5, q⟩⟩⟩
end
/-- what the block wants of an exception -/
abbrev bXe (X : Cx) (ce : Env) : Value → Shared → Prop := notedBy (model X.prog X.w) X.A ce (CompFails (model X.prog X.w) X.A X.xe ce)
abbrev Cx.wx (X : Cx) (xe : Value → Shared → Prop) : Cx := { X with xe := xe }
section
variable {X : Cx} {pins : List (Addr × Obj)} {σ : L2.St} {H : Hp} {s : Shared}
theorem inv_wx (I : Inv X pins σ H s) (xe : Value → Shared → Prop) : Inv (Cx.wx X xe) pins σ H s :=
  ⟨I.ok.toTry X.pn xe, I.os, I.bare, I.base, I.loc, I.cell, I.free, I.freeC, I.pin, I.hok, I.len⟩
theorem inv_xw {xe : Value → Shared → Prop} (I : Inv (Cx.wx X xe) pins σ H s) (ok : X.Ok) : Inv X pins σ H s :=
  ⟨ok, I.os, I.bare, I.base, I.loc, I.cell, I.free, I.freeC, I.pin, I.hok, I.len⟩
theorem ns_slots {h h' : Heap} {L : Addr} {m : Str → Option Value} (hn : h.Ns L m) (k : ∀ o, h.get? L = some o → (∀ vs, o.data ≠ .fields vs) → ∃ sl, h'.get? L = some { o with slots := sl }) : h'.Ns L m ∧ ∃ o es ep, h'.get? L = some o ∧ o.data = .dict es ep := by
  obtain ⟨oL, es, ep, hoL, hdL, r⟩ := hn
  obtain ⟨sl, e⟩ := k oL hoL fun vs q => by rw [hdL] at q; cases q
  exact ⟨⟨_, es, ep, e, hdL, r⟩, _, es, ep, e, hdL⟩
/-- a call's exception leaves the block -/
theorem blk_fails {W : WX} {E : XK} {pB : List (Addr × Obj)} {σB : L2.St} {HC HB : Hp} {sC : Shared} {scope : Scope} {ce : Env} {fp : List Addr} {e : Value} {s' : Shared}
    (hst : X.stack = X.env :: X.outer) (hf : X.env.frame = some X.env.locals) (tk : Takes X W) (IC : Inv X pins σ HC sC) (hfp : ∀ b ∈ fp, FpOk X pins HC b) (hL : ce.locals = sC.heap.objs.size) (hce : ce.frame = X.env.frame)
    (IB : Inv (X.blk sC HC scope ce fp) pB σB HB s) (c : CX X.prog X.w X.stack HB s E e s') (w : ∀ cls d H', E cls d H' → W cls d σ H') : bXe X ce e s' := by
  obtain ⟨a, Bh, H', cls, d, rfl, fl, hok, ub, na, os, ag, hE⟩ := c
  have st : Bh.StaysIn s'.heap := fl.1
  have hfr : X.A.frames = some (X.env :: X.outer) := by rw [IC.ok.frames, hst]
  have base : Un (frs X.stack) fp HC HB sC.heap s.heap := IB.base
  have nC : ∀ {b : Addr} {o : Obj}, sC.heap.get? b = some o → b ≠ ce.locals := fun {b o} z q => by
    have := Heap.lt_size z
    rw [q, hL] at this
    exact Nat.lt_irrefl _ this
  have nF : ce.locals ∉ frs X.stack := fun hb => by
    obtain ⟨_, o, ho, _⟩ := IC.stack.mem hb
    exact nC ho rfl
  have nfC : ∀ {b : Addr}, b ∈ frs X.stack → b ≠ ce.locals := fun {b} hb q => nF (q ▸ hb)
  obtain ⟨m0, hn0, _⟩ := IB.loc
  have hn0 : s.heap.Ns ce.locals m0 := hn0
  obtain ⟨oC, esC, epC, eC, dC, rC⟩ := id hn0
  have fC : HB ce.locals = none := IB.free
  have bC : Bh.get? ce.locals = some oC := ub.keep _ _ eC fC nF
  have hC' : H' ce.locals = none := ub.free _ _ eC fC
  -- the ground without the block's names
  obtain ⟨G, g1, g2⟩ := restrict s'.heap fun b => ((Bh.get? b).isSome || decide (b ∈ frs X.stack)) && decide (b ≠ ce.locals)
  obtain ⟨B2, b1, b2⟩ := restrict Bh fun b => decide (b ≠ ce.locals)
  have b3 : ∀ b, b ≠ ce.locals → B2.get? b = Bh.get? b := fun b hb => b1 b (decide_eq_true hb)
  have b4 : B2.get? ce.locals = none := b2 _ (by simp)
  have gB : ∀ b o, b ≠ ce.locals → Bh.get? b = some o → G.get? b = some o := fun b o hb z => by
    rw [g1 b (by simp [z, hb])]
    exact st b o z
  have gF : ∀ b, b ∈ frs X.stack → G.get? b = s'.heap.get? b := fun b hb => g1 b (by simp [hb, nfC hb])
  have og : ∀ b o, G.get? b = some o → s'.heap.get? b = some o ∧ b ≠ ce.locals ∧ ((Bh.get? b).isSome = true ∨ b ∈ frs X.stack) := fun b o z => by
    cases q : (((Bh.get? b).isSome || decide (b ∈ frs X.stack)) && decide (b ≠ ce.locals)) with
    | false => rw [g2 b q] at z; cases z
    | true =>
      rw [g1 b q] at z
      obtain ⟨q1, q2⟩ := Bool.and_eq_true_iff.mp q
      exact ⟨z, of_decide_eq_true q2, by simpa [Bool.or_eq_true] using q1⟩
  have U : Un (frs X.stack) fp HC H' sC.heap G := {
    keep := fun b o z n hb hx => gB b o (nC z) (ub.keep b o (base.keep b o z n hb hx) (base.free b o z n hx) hb)
    slot := fun b o z n hb hx => by
      obtain ⟨sl, q⟩ := base.slot b o z n hb hx
      obtain ⟨sl2, q2⟩ := ub.slot b _ q hb
      exact ⟨sl2, by rw [gF b hb]; exact q2⟩
    free := fun b o z n hx => by
      obtain ⟨o', q⟩ := base.there b o z hx
      exact ub.free b o' q (base.free b o z n hx)
    there := fun b o z hx => by
      obtain ⟨o', q⟩ := base.there b o z hx
      by_cases hb : b ∈ frs X.stack
      · obtain ⟨sl, q2⟩ := ub.slot b o' q hb
        exact ⟨_, by rw [gF b hb]; exact q2⟩
      · obtain ⟨o2, q2⟩ := ub.there b o' q hb
        exact ⟨o2, gB b o2 (nC z) q2⟩
    tups := fun b xs z => ub.tups b xs (base.tups b xs z)
    frzs := fun b o u z => ub.frzs b o u (base.frzs b o u z)
    tbls := fun b ps z => by
      obtain ⟨m1, e1⟩ := base.tbls b ps z
      obtain ⟨m2, e2⟩ := ub.tbls b _ e1
      exact ⟨m1 ++ m2, by rw [e2, Array.append_assoc]⟩ }
  have hokG : HOk X.prog X.w H' G := fun b o q => (hok b o q).stay (fun c u hc r => gB c u (by
      rintro rfl
      rcases hc with hc | hc
      · rw [← hc, hC'] at q; cases q
      · rw [hC'] at hc; cases hc) r) (fun _ r => r) fun _ _ r => r
  have hos : s'.os = sC.os := os.trans IB.os
  have J : Inv X pins σ H' { s' with heap := G } := IC.call' (s' := { s' with heap := G }) (ch := fp) hos U hokG ag fun b hb => by
    obtain ⟨_, f1, f2, f3, f4, f5⟩ := hfp b hb
    exact ⟨f3, f1, f4, f5⟩
  show wpAny _ _ (noteFrame (.ref a) ce) _ _ s'
  rw [noteFrame_env _ hce]
  rw [hst] at fl
  refine HandSPX.looks_onZ Zc.steady hfr hf fl fun h1 held up1 => ?_
  obtain ⟨st1, bn, ff, oe, vs, T, oT, ts, he, hz, hd, hv1, hnT, hTe, hT, hdT, h3⟩ := held
  obtain ⟨hn1, o1, es1, ep1, e1, d1⟩ := ns_slots (h := s'.heap) (h' := h1) (L := ce.locals) (m := m0) ⟨oC, esC, epC, st _ _ bC, dC, rC⟩ fun o z n => up1 _ o z n
  refine ⟨m0, hn1, fun h2 m2 hn2 sb2 => ?_⟩
  have neA : a ≠ ce.locals := by
    rintro rfl
    rw [e1] at he; cases he
    rw [d1] at hd; cases hd
  have neT : T ≠ ce.locals := by
    rintro rfl
    rw [e1] at hT; cases hT
    rw [d1] at hdT; cases hdT
  have he2 : h2.get? a = some oe := (sb2.2 a neA).trans he
  have held2 : HandSPX.HeldZ B2 (X.env :: X.outer) a (Zc cls d) X.env.locals h2 := by
    refine ⟨fun b o z => ?_, by rw [b3 a neA]; exact bn, funFrames_none (ff.sameBut sb2 hn2) fun L hL' => ?_, oe, vs, T, oT, ts, he2, hz, hd, hv1, by rw [b3 T neT]; exact hnT, hTe, (sb2.2 T neT).trans hT, hdT, h3⟩
    · by_cases hb : b = ce.locals
      · rw [hb, b4] at z; cases z
      · rw [b3 b hb] at z
        exact (sb2.2 b hb).trans (st1 b o z)
    · by_cases hb : L = ce.locals
      · rw [hb]; exact b4
      · rw [b3 L hb]
        exact (ff.mem hL').1
  unfold PySem.passOn
  refine wpAny_bind (wpAny_field he2 hd hv1 ?_)
  rw [if_neg (show ¬ ((Value.ref T == Value.none) = true) from by simp)]
  rw [hce, hf]
  refine wpAny_bind (HandSPX.setFlight_onZ held2 fun h3 held3 up3 => wpAny_throw ?_)
  refine tk _ _ ⟨a, B2, { s' with heap := G }, pins, σ, H', cls, d, rfl, J, fun b o z hb => ?_, fun b o z n => ?_, .inr (.inr (by rw [hst]; exact held3)), na, rfl, ag, w _ _ _ hE⟩
  · obtain ⟨z1, z2, z3⟩ := og b o z
    rcases z3 with z3 | z3
    · obtain ⟨o', q⟩ := Option.isSome_iff_exists.mp z3
      have y := st b o' q
      rw [z1] at y; cases y
      rw [b3 b z2]
      exact q
    · exact absurd z3 hb
  · obtain ⟨z1, z2, _⟩ := og b o z
    obtain ⟨sl, y1⟩ := up1 b o z1 n
    obtain ⟨sl3, y3⟩ := up3 b { o with slots := sl } (show h2.get? b = some { o with slots := sl } from (sb2.2 b z2).trans y1) n
    exact ⟨sl3, y3⟩
end
/-- an expression of a block, its exceptions told apart -/
def PEx (B : Cx) (xe : Value → Shared → Prop) (e : Expr) (t : TE) : Prop := ∀ (pins : List (Addr × Obj)) (s : Shared) (σ : L2.St) (H : Hp) (Q : VK), Inv B pins σ H s → t σ H Q → wpAny (model B.prog B.w) B.A (eval e B.env) (EP B pins σ Q) xe s
section
variable {X : Cx} {pins : List (Addr × Obj)} {σ : L2.St} {H : Hp} {s : Shared}
/-- the block's loop -/
theorem blk_loopX {H3 : Hp} {s3 s4 : Shared} {scope : Scope} {ce : Env} {fp : List Addr} {tg elt iter : Expr} {ifs : List Expr} {g : TG} {tt : TT} {te : TE} {it D : Addr} {tn : Nat → Heap → Prop} {J : It} {own : List (Str × Nat)} {pos : Pos}
    {W : Nat → Nat → Hp → Prop} {Q : Hp → Prop} {R : Result → Shared → Prop} {m0 : Nat} (hc : X.calm = true) (T : Turn X.prog X.w X.K tg J fp it tn)
    (pg : PG (X.blk s3 H3 scope ce fp) tg g) (pt : PTs (X.blk s3 H3 scope ce fp) ifs tt) (pe : PEx (X.blk s3 H3 scope ce fp) (notedBy (model X.prog X.w) X.A ce fun e s' => R (.error e) s') elt te)
    (turn : ∀ i m H, W i m H → (J.stop i H ∧ Q H) ∨ (J.go i H ∧ ∃ Nx : Hp → Prop, (∀ H', Nx H' → ∃ m', m' < m ∧ W (i + 1) m' H') ∧ ∀ x H', J.yld i H x H' → g x (wipe σ (own.map (·.2))) H' fun σ2 H2 => wipe σ2 (own.map (·.2)) = wipe σ (own.map (·.2)) ∧ tt σ2 H2 fun b H3 =>
      if b = true then te σ2 H3 fun y H4 => ∃ acc, H4 D = some (.lst acc) ∧ acc.length < sizeLine ∧ Nx (upd H4 D (.lst (acc ++ [y]))) else Nx H3))
    (end_ : ∀ s' H', Inv (X.blk s3 H3 scope ce fp) [] (wipe σ (own.map (·.2))) H' s' → Q H' → R (.ok .next) s')
    (start : BlkAt (X.blk s3 H3 scope ce fp) fp (wipe σ (own.map (·.2))) tn W m0 s4) :
    codeAny (model X.prog X.w) X.A (.compLoop (.ListComp elt [⟨tg, iter, ifs, 0⟩] scope pos) 0 (.ref it) (.ref D) ce) R s4 := by
  refine compLoop_any (BlkAt (X.blk s3 H3 scope ce fp) fp (wipe σ (own.map (·.2))) tn W) (fun n sA hA => ?_) m0 start
  obtain ⟨i, HA, IA, stA, nA, wA⟩ := hA
  have FA := fp_blk rfl rfl IA nA
  rcases turn i n HA wA with hs | hg
  · refine thnF (T.done (X.blk s3 H3 scope ce fp) rfl rfl rfl hc i [] sA _ HA (fun _ _ => False) IA FA stA hs.1) fun r sB hB => ?_
    obtain ⟨rfl, IB⟩ := hB
    exact end_ sB HA IB hs.2
  · obtain ⟨go, Nx, less_, step⟩ := hg
    refine thnF (T.item (X.blk s3 H3 scope ce fp) rfl rfl rfl hc i [] sA _ HA (fun _ _ => False) IA FA stA go) fun r sB hB => ?_
    obtain ⟨u, rfl, hB⟩ := hB
    refine thnF hB fun _ sC hC => ?_
    obtain ⟨x, HC, IC, rC, yC, stC, nC⟩ := hC
    have IP := IC.pinned (fp_blk rfl rfl IC nC) (T.obj _ _ stC)
    have back : ∀ {σZ : L2.St} {sZ : Shared} {HZ : Hp}, wipe σZ (own.map (·.2)) = wipe σ (own.map (·.2)) → Inv (X.blk s3 H3 scope ce fp) ([] ++ pinsAt fp sC.heap) σZ HZ sZ → Nx HZ → ∃ m, m < n ∧ BlkAt (X.blk s3 H3 scope ce fp) fp (wipe σ (own.map (·.2))) tn W m sZ := fun {σZ sZ HZ} hw IZ nx => by
      obtain ⟨m', lt, w'⟩ := less_ HZ nx
      have same : ∀ b ∈ fp, ∀ o, sC.heap.get? b = some o → sZ.heap.get? b = some o ∧ HZ b = none := fun b hb o e => by
        have z := IZ.pin (b, o) (List.mem_append_right _ (List.mem_append_right _ (mem_pinsAt hb e)))
        exact ⟨z.1, z.2.1⟩
      have ln : (wipe σ (own.map (·.2))).length = σZ.length := by rw [← hw, wipe_length]
      have Iw := (IZ.unpinned (pins := [])).weak ln fun j v e => by
        rw [← hw] at e
        exact (wipe_some e).1
      refine ⟨m', lt, i + 1, HZ, Iw, T.keep _ _ _ stC fun b hb o e => (same b hb o e).1, fun b hb => ?_, w'⟩
      obtain ⟨o, e, _⟩ := T.obj _ _ stC b hb
      exact (same b hb o e).2
    refine thnF (pg.run _ sC _ HC x u _ IP rC (step x HC yC)) fun _ sD hD => ?_
    obtain ⟨σD, HD, ID, hw, qD⟩ := hD
    refine thnF (pt.run _ sD σD HD _ ID qD) fun b sE hE => ?_
    obtain ⟨HE, IE, qE⟩ := hE
    cases b with
    | false => exact back hw IE (by simpa using qE)
    | true =>
      have qE : te σD HE fun y H4 => ∃ acc, H4 D = some (.lst acc) ∧ acc.length < sizeLine ∧ Nx (upd H4 D (.lst (acc ++ [y]))) := by simpa using qE
      refine thn (pe _ sE σD HE _ IE qE) fun z sF hF => ?_
      obtain ⟨y, HF, IF, rF, acc, at_, short, nx⟩ := hF
      exact app_ok (X := X.blk s3 H3 scope ce fp) IF at_ short rF fun sG IG => back hw IG nx
/-- as a value -/
theorem pe_lcX {elt tg iter : Expr} {ifs : List Expr} {scope : Scope} {own : List (Str × Nat)} {pos : Pos} {wi : TI} {g : TG} {tt : TT} {te : L2.St → TE} (hc : X.calm = true) (hN : X.N.Nodup) (hi : PI X tg iter wi) (ok : BlkOk X.N X.env.scope scope own)
    (hb : ∀ (pins : List (Addr × Obj)) (σ : L2.St) (H : Hp) (s : Shared) (fp : List Addr), Inv X pins σ H s → (∀ b ∈ fp, FpOk X pins H b) → PG (bCx X s H scope fp) tg g ∧ PTs (bCx X s H scope fp) ifs tt ∧ PEx (bCx X s H scope fp) (bXe X (bCx X s H scope fp).env) elt (te σ)) (hs : ∀ x, foldedSetIterable iter X.env x = pure x) :
    PE X (.ListComp elt [⟨tg, iter, ifs, 0⟩] scope pos) (fun σ => tLc wi g tt (te σ) (own.map (·.2)) σ) := ⟨fun pins s σ H Q I h => by
  rw [eval_ListComp]
  have captured : ∀ y ∈ scope.names, y.2 = .free → ∃ c, X.env.cells.lookup y.1 = some c := fun y hy e =>
    (ok.free y hy e).elim (fun k => I.ok.has _ (.inl k)) fun k => I.ok.has _ (.inr k)
  refine comprehension_at (use := none) rfl hs (closure_ok captured) ok.kind (fun y hy e => (ok.uniq y hy).trans (by rw [e])) (thn (hi.run pins s σ H _ I h) fun xv sA hA => thn hA fun itv sB hB => ?_)
  obtain ⟨it, fp, tn, J, HB, rfl, IB, T, stB, fB, q⟩ := hB
  refine wpAny_newObj_type (newEnv_comp ?_) (by show 0 ≤ sizeLine; decide)
  obtain ⟨D, eD⟩ : ∃ D, sB.heap.objs.size = D := ⟨_, rfl⟩
  rw [eD]
  have nD : HB D = none := IB.hok.fresh (Nat.le_of_eq eD)
  obtain ⟨W, ⟨m0, w0⟩, turn⟩ := q D nD
  generalize eC : ({ sB with heap := sB.heap.push { cls := .type "list", data := .seq ([] : List Value).toArray } } : Shared) = sC
  have hC : sC.heap = sB.heap.push { cls := .type "list", data := .seq ([] : List Value).toArray } := by rw [← eC]
  have IC : Inv X pins σ (upd HB D (.lst [])) sC := by
    rw [← eC]
    exact IB.laid (t' := sB.toks) (fun b o e => Heap.get?_push_of_some _ e) (Nat.le_of_eq eD) ⟨Nat.zero_le _, [], 0, .nil, by rw [← eD]; exact Heap.get?_push_size _ rfl⟩
  have fC : ∀ b ∈ fp, FpOk X pins (upd HB D (.lst [])) b ∧ b < sC.heap.objs.size := fun b hb => by
    obtain ⟨o, e, _⟩ := T.obj _ _ stB b hb
    have lt := Heap.lt_size e
    obtain ⟨f1, f2⟩ := fB b hb
    refine ⟨⟨?_, f2⟩, by rw [hC, Heap.size_push]; exact Nat.lt_succ_of_lt lt⟩
    rw [upd_ne (by rw [← eD]; exact Nat.ne_of_lt lt)]
    exact f1
  have stC : tn 0 sC.heap := T.keep _ _ _ stB fun b _ o e => by rw [hC]; exact Heap.get?_push_of_some _ e
  obtain ⟨pg, pt, pe⟩ := hb pins σ _ sC fp IC fun b hb => (fC b hb).1
  have ID := block_start IC ok hN fC
  show codeAny _ _ (.compStart (.ListComp elt [⟨tg, iter, ifs, 0⟩] scope pos) 0 (.ref it) (.ref D) (compEnvC scope (bCells X sC scope) sC.heap.objs.size X.env)) (compEnds (model X.prog X.w) X.A X.xe none (EP X pins σ Q) (.ref D) (compEnvC scope (bCells X sC scope) sC.heap.objs.size X.env)) { sC with heap := pushCells (sC.heap.push { cls := .type "dict", data := .dict #[] }) scope.names }
  have stD : tn 0 (pushCells (sC.heap.push { cls := .type "dict", data := .dict #[] }) scope.names) := T.keep _ _ _ stC fun b _ o e => pushCells_keeps _ _ _ _ (Heap.get?_push_of_some _ e)
  have loop := blk_loopX (R := compEnds (model X.prog X.w) X.A X.xe none (EP X pins σ Q) (.ref D) (compEnvC scope (bCells X sC scope) sC.heap.objs.size X.env)) (iter := iter) (pos := pos) (Q := fun H' => Q (.ref D) H') hc T pg pt pe turn (fun s' H' IZ qZ => ?_) ⟨0, _, ID, stD, fun b hb => (fC b hb).1.1, w0⟩
  · exact codeAny_compStart_list loop (T.self X.A 0 _ _ _ stD loop)
  · have nC : H' sC.heap.objs.size = none := IZ.free
    obtain ⟨m, hn, _⟩ := IZ.loc
    have hn : s'.heap.Ns sC.heap.objs.size m := hn
    obtain ⟨f0, f1, f2, f3, f4, f5⟩ := IC.fpOk (Nat.le_refl _) nC
    refine ⟨m, hn, fun h2 sb => ⟨.ref D, H', ?_, rfl, qZ⟩⟩
    have JZ : Inv X pins σ H' s' := IC.call' (ch := fp) IZ.os IZ.base IZ.hok IZ.bare fun b hb => by
      obtain ⟨_, f1, f2, f3, f4, f5⟩ := (fC b hb).1
      exact ⟨f3, f1, f4, f5⟩
    exact JZ.turned (t' := s'.toks) (fun b o ne e => (sb.2 b ne).trans e) f0 f1 f3 f4 f5⟩
/-- the element: a call of the module's, its arguments without exceptions -/
theorem pex_call {W : WX} {r : Rt} {k : Nat} {scope : Scope} {fp : List Addr} {x : Str} {a : Addr} {p pos : Pos} {args : List Expr} {t : TA}
    (hr : rtOf X = r) (room : Room k X.A) (hst : X.stack = X.env :: X.outer) (hf : X.env.frame = some X.env.locals) (tk : Takes X W) (I0 : Inv X pins σ H s) (hfp : ∀ b ∈ fp, FpOk X pins H b)
    (gl : Gl (bCx X s H scope fp) x) (hdb : (x == ("__debug__" : Str)) = false) (hm : X.mg x = some (.ref a)) (hk : PySem.W.keepIn X.K (.ref a) = true) (ha : PA (bCx X s H scope fp) args t)
    (hs1 : ∃ e es, args = e :: es ∧ starEach args (bCx X s H scope fp).env = (false, eval e (bCx X s H scope fp).env) :: starEach es (bCx X s H scope fp).env ∧ ∀ pos, (backTo pos (starEach es (bCx X s H scope fp).env)).any (·.1) = false) :
    PEx (bCx X s H scope fp) (bXe X (bCx X s H scope fp).env) (.Call (.Name x p) args [] pos) (fun σB HB Q => t σB HB fun vs H1 => ∃ sp, CallOk r k a sp ∧ sp vs H1 Q fun cls d H' => W cls d σ H') := by
  intro pB sB σB HB Q IB q
  refine wpAny_Call_Name_kw (ld_glob IB gl hm ?_ hdb)
  obtain ⟨e, es, rfl, s1, s2⟩ := hs1
  refine PySem.W.callWith_K (h₀ := X.base) IB.ok.mod.kin hk (thnF (wpAny_mono ((ha.run pos pB sB σB HB _ IB q)) (fun _ _ z => z) fun _ _ z => z) fun us s3 ⟨vs, H1, I1, r1, sp, c, q1⟩ => ⟨I1.kIn, ?_⟩) s1 (s2 pos)
  have J1 := inv_wx I1 (bXe X (bCx X s H scope fp).env)
  refine thn (c.run (Cx.wx (bCx X s H scope fp) (bXe X (bCx X s H scope fp).env)) hr room pB σB H1 s3 Q _ us vs J1 (fun pins' H' s' e' s'' I' c' => ?_) r1 q1) fun u s4 ⟨v, H4, I4, r4, q4⟩ => ⟨v, H4, inv_xw I4 IB.ok, r4, q4⟩
  exact blk_fails hst hf tk I0 hfp rfl rfl (inv_xw I' IB.ok) c' fun _ _ _ z => z
end
section
variable {X : Cx} {x : Str} {e : Expr} {es : List Expr} {ta : TA} {p1 p2 pos : Pos}
/-- C.__init__(self, ..), C a class of the module -/
theorem pe_upinit {r : Rt} {k : Nat} {VE fI : Addr} {mc : Value} {sp : Sp} {pl : Sem Bool} (hr : rtOf X = r) (room : Room k X.A) (hg : Gl X x) (hdb : (x == ("__debug__" : Str)) = false) (hm : X.mg x = some (.ref VE)) (rd : ClX.CRead X.K VE mc) (at_ : PySem.W.findCls X.K (.ref VE) mc "__init__" = some (.val (.ref fI)))
    (hk : PySem.W.keepIn X.K (.ref fI) = true) (c : CallOk r k fI sp) (ha : PA X (e :: es) ta)
    (hc : eval (.Call (.Attribute (.Name x p1) "__init__" p2) (e :: es) [] pos) X.env = (do
      let ov ← eval (.Name x p1) X.env
      standAt p2.atName
      let (f, first) ← holding [ov] (getMethod ov "__init__" pl)
      callWith pos f first (backTo pos (starEach (e :: es) X.env)) (backToKw pos (keywordEach [] X.env))))
    (he : starEach (e :: es) X.env = (false, eval e X.env) :: starEach es X.env := by rfl) (hpl : (backTo pos (starEach es X.env)).any (·.1) = false := by rfl) :
    PE X (.Call (.Attribute (.Name x p1) "__init__" p2) (e :: es) [] pos) (fun σ H Q => ta σ H fun vs H1 => sp vs H1 Q fun _ _ _ => False) := by
  refine ⟨fun pins s σ H Q I h => ?_⟩
  refine PySem.W.methodCall_KW (ld_glob I hg hm ?_ hdb) hc
  refine PySem.W.method_cls I.kIn rd.ga (ClX.getcval_ok I rd (v := .ref fI) ⟨at_, rfl⟩ fun s' I' => ?_)
  show wpAny _ _ (callWith pos (Value.ref fI) [] (backTo pos (starEach (e :: es) X.env)) []) _ _ _
  refine PySem.W.callWith_K (h₀ := X.base) I'.ok.mod.kin hk (thn (ha.run pos pins s' σ H _ I' h) fun us s1 ⟨vs, H1, I1, r1, q1⟩ => ⟨I1.kIn, ?_⟩) he hpl
  exact c.run X hr room pins σ H1 s1 Q _ us vs I1 (fun pins' H' s2 e' s3 I2 c' => by
    obtain ⟨_, _, _, _, _, _, _, _, _, _, _, _, z⟩ := c'
    exact z.elim) r1 q1
end
/-- its promise -/
def spRowInit (K : PySem.W.Frag) : Sp := fun vs H Q _ => ∃ a C nm i, vs = [.ref a, .int i] ∧ i.natAbs < 10 ^ 9 ∧ H a = some (exo a C none) ∧ OexC K C ∧ ExcC K C ∧ NameC K C nm ∧ PySem.W.findIn K (.ref C) "kind" = some none ∧ PySem.W.findIn K (.ref C) "row" = some none ∧
  ∀ dx, H dx = none → dx ≠ a → Q .non (upd (upd (upd H dx (exd dx [("kind", .str nm)])) a (exo a C (some dx))) dx (exd dx [("row", .int i), ("kind", .str nm)]))
/-- what it wants of the class above -/
structure UpC (P : Program) (w : World) (K : PySem.W.Frag) (mg : Str → Option Value) (base : Heap) (VE : Addr) : Prop where
  mgv : mg "VolumeError" = some (.ref VE)
  rd : ClX.CRead K VE (.type "type")
  fn : ∃ fI, PySem.W.findCls K (.ref VE) (.type "type") "__init__" = some (.val (.ref fI)) ∧ PySem.W.keepIn K (.ref fI) = true ∧ CallOk ⟨P, w, K, mg, base⟩ 1 fI (spErrInit K)
/-- a class of refusals that tells a row -/
structure RowOk (P : Program) (w : World) (K : PySem.W.Frag) (mg : Str → Option Value) (base : Heap) (C : Addr) (nm : Str) : Prop where
  oex : OexC K C
  exc : ExcC K C
  nam : NameC K C nm
  kin : PySem.W.findIn K (.ref C) "kind" = some none
  rin : PySem.W.findIn K (.ref C) "row" = some none
  ini : ∃ fI fd, PySem.W.findIn K (.ref C) "__init__" = some (some (.ref fI)) ∧ PySem.W.typeIn K (.ref fI) = some (.type "function") ∧ FnOk P w K mg base (L2.CX P w) 2 fI fd ["self", "row"] (spRowInit K) ∧ Binds K fd ["self", "row"] []
section
variable {X : Cx} {W : WX} {x : Str} {p p2 p3 pos : Pos} {e : Expr} {te : TE}
/-- raise C(row) -/
theorem ps_row {C : Addr} {nm : Str} (hc : X.calm = true) (tk : Takes X W) (E : RowOk X.prog X.w X.K X.mg X.base C nm) (hr : Room 3 X.A) (hg : Gl X x) (hm : X.mg x = some (.ref C)) (hd : (x == ("__debug__" : Str)) = false) (he : PE X e te)
    (hs : starEach [e] X.env = (false, eval e X.env) :: starEach [] X.env) :
    PS X (.Raise (some (.Call (.Name x p) [e] [] p3)) none pos) (fun _ σ H => te σ H fun v H1 => ∃ i, v = .int i ∧ i.natAbs < 10 ^ 9 ∧ ∀ d, H1 d = none → W (.ref C) (some d) σ (upd H1 d (.xd [("row", .int i), ("kind", .str nm)]))) := by
  obtain ⟨fI, fd, iC, tI, F1, hb⟩ := E.ini
  have ps : Passes (L2.CX X.prog X.w) X (fun _ _ _ => False) := fun pins σ H s e s' I c => by
    obtain ⟨_, _, _, _, _, _, _, _, _, _, _, _, z⟩ := c
    exact z.elim
  have he2 : PE X e (fun σ H Q => ∃ Q0 : VK, te σ H Q0 ∧ ∀ v H1, Q0 v H1 → Q v H1) := ⟨fun pins s σ H Q I h => by
    obtain ⟨Q0, h, k⟩ := h
    exact thn (he.run pins s σ H Q0 I h) fun u s1 ⟨v, H1, I1, r1, q1⟩ => ⟨v, H1, I1, r1, k v H1 q1⟩⟩
  have key := ps_raise (pos := pos) hc tk (pmk_oex (p := p) (pos := p3) E.oex iC tI F1 hr hb (dvs := []) .nil ps hg hm (pa_cons he2 pa_nil hs) hd hs)
  refine ⟨fun pins s σ H D I h => key.run pins s σ H D I ⟨_, h, fun v H1 hv => ?_⟩⟩
  obtain ⟨i, rfl, hi, hw⟩ := hv
  refine ⟨(show (1 : Nat) ≤ 1000 by decide), fun a ha => ⟨a, C, nm, i, rfl, hi, upd_same, E.oex, E.exc, E.nam, E.kin, E.rin, fun dx hn hne => ⟨rfl, dx, [("row", .int i), ("kind", .str nm)], ?_, upd_same, ?_, ?_⟩⟩⟩
  · rw [upd_ne (Ne.symm hne), upd_same]
  · rw [upd_ne hne] at hn
    exact hn
  · rw [upd_ne hne] at hn
    have e : upd (del (upd (upd (upd (upd H1 a (exo a C none)) dx (exd dx [("kind", .str nm)])) a (exo a C (some dx))) dx (exd dx [("row", .int i), ("kind", .str nm)])) a) dx (.xd [("row", .int i), ("kind", .str nm)]) = upd H1 dx (.xd [("row", .int i), ("kind", .str nm)]) := by
      funext b
      by_cases h1 : b = dx
      · subst h1
        rw [upd_same, upd_same]
      · rw [upd_ne h1, upd_ne h1]
        by_cases h2 : b = a
        · subst h2
          rw [del_same]
          exact ha.symm
        · rw [del_ne h2, upd_ne h1, upd_ne h2, upd_ne h1, upd_ne h2]
    exact e ▸ hw dx hn
end
def rRevS : V → Hp → VK → Prop := fun x H Q => ∃ z : Str, x = .str z ∧ z.length ≤ sizeLine ∧ ∀ y : Str, y.length ≤ z.length → (∀ c ∈ y.cps.toList, c ∈ z.cps.toList) → Q (.str y) H
theorem idx_back (n : Nat) : (Builtin.Str.strSliceIndices none none (-1) n).length ≤ n := by
  have h1 : ((-1 : Int) > 0) = False := by simp
  unfold Builtin.Str.strSliceIndices sliceRange
  simp only [h1, if_false]
  split <;> first
    | (simp only [List.length_map, List.length_range]; omega)
    | (simp; done)
    | simp
section
variable {X : Cx}
theorem pe_revX {e : Expr} {te : TE} {k : Nat} {p1 p2 p3 pos : Pos} (he : PE X e te) : PE X (.Subscript e (.Slice none none (some (.UnaryOp .USub (.Constant (.int 1) k p1) p2)) p3) pos) (fun σ H Q => te σ H fun x H1 => rRev X.K x H1 Q ∨ rRevS x H1 Q) := by
  refine ⟨fun pins s σ H Q I h => ?_⟩
  refine Subscript_ (thn (he.run pins s σ H _ I h) fun v s1 ⟨x, H1, I1, r1, q1⟩ => ?_)
  have hst : PO X (some (.UnaryOp .USub (.Constant (.int 1) k p1) p2)) (tPart (tUn (rU fun i => .int (-i)) (tC (.int 1)))) := po_some (pe_un un_neg pe_int)
  refine wpAny_Slice (thn (po_none.run pins s1 σ H1 (fun o H2 => o = none ∧ H2 = H1) I1 ⟨rfl, rfl⟩) fun vl s2 ⟨l, H2, I2, pl, el, e2⟩ => ?_)
  subst el e2
  refine thn (po_none.run pins s2 σ H2 (fun o H3 => o = none ∧ H3 = H2) I2 ⟨rfl, rfl⟩) fun vu s3 ⟨u, H3, I3, pu, eu, e3⟩ => ?_
  subst eu e3
  refine thn (hst.run pins s3 σ H3 (fun o H4 => o = some (-1) ∧ H4 = H3) I3 ⟨1, rfl, -1, rfl, rfl, rfl⟩) fun vs s4 ⟨o, H4, I4, ps, eo, e4⟩ => ?_
  subst eo e4
  have I5 : Inv X pins σ H4 { s4 with heap := s4.heap.push { cls := .type "slice", data := .fields #[vl, vu, vs] } } := I4.kept (t' := s4.toks) fun b ob q => Heap.get?_push_of_some _ q
  rcases q1 with ⟨a, xs, ex, q⟩ | ⟨z, ex, hz, q⟩
  · subst ex
    cases r1
    show wpAny (model X.prog X.w) X.A (subscriptTail e (.Slice none none (some (.UnaryOp .USub (.Constant (.int 1) k p1) p2)) p3) (.ref a) (.ref s4.heap.objs.size)) (EP X pins σ Q) X.xe { s4 with heap := s4.heap.push { cls := .type "slice", data := .fields #[vl, vu, vs] } }
    rcases q with ⟨hx, q⟩ | ⟨hx, q⟩
    · obtain ⟨its, r, ht, hz⟩ := I5.list hx
      have hlen := r.length
      refine tail_any (ops := [.ref a, .ref s4.heap.objs.size]) ht.isList.typeIs (PySem.slot_list_getitem.lookup) ?_ (by with_unfolding_all rfl)
      refine wpAny_getItem_list_slice ht.isList (Heap.IsSliceOf.new _ vl vu vs) pl pu ps (by decide) ?_ (by rw [List.size_toArray]; omega)
      rw [PySem.W.krv_pick]
      refine ⟨.ref _, _, I5.laid (t' := s4.toks) (o := .lst xs.reverse) (fun b ob q => Heap.get?_push_of_some _ q) (Nat.le_refl _) ?_, rfl, q _ (I5.hok.fresh (Nat.le_refl _))⟩
      exact ⟨by rw [List.length_reverse]; exact hz, _, 0, r.reverse, Heap.get?_push_size _ rfl⟩
    · obtain ⟨its, r, ht, hz⟩ := I5.tuple hx
      have hlen := r.length
      refine tail_any (ops := [.ref a, .ref s4.heap.objs.size]) ht.typeIs (PyProof.Rows.slot_tuple_getitem.lookup) ?_ (by with_unfolding_all rfl)
      refine tup_back ht (Heap.IsSliceOf.new _ vl vu vs) pl pu ps ?_ (by rw [List.size_toArray]; omega)
      refine ⟨.ref _, _, I5.laid (t' := s4.toks) (o := .tup xs.reverse) (fun b ob q => Heap.get?_push_of_some _ q) (Nat.le_refl _) ?_, rfl, q _ (I5.hok.fresh (Nat.le_refl _))⟩
      exact ⟨by rw [List.length_reverse]; exact hz, _, r.reverse, IsTup.new _ _⟩
  · subst ex
    obtain ⟨t, rfl⟩ := r1
    show wpAny (model X.prog X.w) X.A (subscriptTail e (.Slice none none (some (.UnaryOp .USub (.Constant (.int 1) k p1) p2)) p3) (.str z t) (.ref s4.heap.objs.size)) (EP X pins σ Q) X.xe { s4 with heap := s4.heap.push { cls := .type "slice", data := .fields #[vl, vu, vs] } }
    refine tail_any (ops := [.str z t, .ref s4.heap.objs.size]) (typeIs_str _ _ _) (F.slot_str_getitem.lookup) ?_ (by with_unfolding_all rfl)
    obtain ⟨l0, rfl, hl0⟩ := IsPart.raw pl
    obtain ⟨u0, rfl, hu0⟩ := IsPart.raw pu
    obtain ⟨k0, rfl, hk0⟩ := IsPart.raw ps
    have e1 : l0.map (·.1) = none := hl0
    have e2 : u0.map (·.1) = none := hu0
    have e3 : (k0.map (·.1)).getD 1 = -1 := by rw [hk0]; rfl
    obtain ⟨os, hos, hcs, hds⟩ := Heap.IsSliceOf.new s4.heap (partValue l0) (partValue u0) (partValue k0)
    refine wpAny_getItem_str_slice (l := l0) (u := u0) (st := k0) ⟨os, hos, hcs, hds⟩ (by rw [e3]; rfl) ?_
    have hno : ((-1 : Int) == 1 && (Builtin.Str.strSliceIndices none none (-1) z.length).length == z.length) = false := by
      rw [show ((-1 : Int) == 1) = false from rfl]; rfl
    have ep : slicePicked z l0 u0 k0 = Builtin.Str.strSliceIndices none none (-1) z.length := by
      unfold slicePicked
      rw [e1, e2, e3]
    unfold sliceMade
    rw [ep, e3]
    rw [hno]
    have hlen : (⟨((Builtin.Str.strSliceIndices none none (-1) z.length).filterMap (z.cps[·]?)).toArray⟩ : Str).length ≤ z.length := by
      show (((Builtin.Str.strSliceIndices none none (-1) z.length).filterMap (z.cps[·]?)).toArray).size ≤ z.length
      rw [List.size_toArray]
      exact Nat.le_trans (List.length_filterMap_le _ _) (idx_back _)
    refine ⟨Nat.le_trans hlen hz, .str _, H4, I5.tok _, ⟨_, rfl⟩, q _ hlen fun c hc => ?_⟩
    have hc : c ∈ ((Builtin.Str.strSliceIndices none none (-1) z.length).filterMap (z.cps[·]?)).toArray.toList := hc
    rw [List.toList_toArray] at hc
    obtain ⟨i, _, hi⟩ := List.mem_filterMap.mp hc
    exact Array.mem_toList_iff.mpr (Array.mem_of_getElem? hi)
end
/-- e.f of the exception that a suite holds -/
def rFldX (K : PySem.W.Frag) (xc : Option (Addr × Value × Option Addr)) (x : V) (f : Str) (H : Hp) (Q : VK) : Prop := ∃ a C dd fs v, xc = some (a, .ref C, some dd) ∧ x = .ref a ∧ ExcC K C ∧ PySem.W.findIn K (.ref C) f = some none ∧ H dd = some (.xd fs) ∧ fs.lookup f = some v ∧ Q v H
def FldX (X : Cx) (xc : Option (Addr × Value × Option Addr)) : Prop := ∀ (e : Expr) (te : TE) (f : Str) (pos : Pos), PE X e te → attributeBase e f X.env (eval e X.env) = eval e X.env → PE X (.Attribute e f pos) (fun σ H Q => te σ H fun x H1 => rFldX X.K xc x f H1 Q)
theorem fldX_suite {X : Cx} {a : Addr} {oe : Obj} {cls : Value} {d : Option Addr} {pn : List (Addr × Obj)} (hz : Zc cls d oe) (hf : ∃ vs, oe.data = .fields vs) : FldX (X.suite a ((a, oe) :: pn)) (some (a, cls, d)) := by
  intro e te f pos he hb
  refine ⟨fun pins s σ H Q I h => ?_⟩
  refine attr_of hb (thn (he.run pins s σ H _ I h) fun u s1 hh => ?_)
  obtain ⟨x, H1, I1, rx, a', C, dd, fs, v, exc, ex, T, hno, ea, l, q⟩ := hh
  cases exc
  subst ex
  obtain rfl : u = Value.ref a := rx
  obtain ⟨ha, _⟩ := I1.pin (a, oe) (List.mem_append_left _ List.mem_cons_self)
  obtain ⟨vs, hd⟩ := hf
  have hx : ObjOk X.prog X.w H1 s1.heap dd (.xd fs) := I1.hok dd _ ea
  obtain ⟨mA, hns, hr⟩ := hx
  obtain ⟨od, ho, hl⟩ := lookIn_ns hns
  obtain ⟨u, hu, ru⟩ := RelO.some_of (v := v) (o := mA f) (by rw [← l]; exact hr f)
  have J : PySem.W.InstAt s1.heap a oe C (some od) := ⟨ha, hz.1, by unfold PySem.W.notCls; rw [hd] <;> rfl, by rw [hz.2]; exact ho⟩
  exact HandSPX.exc_get I1.kIn J T.hg T.hk T.hs (PySem.W.findObj_own T.hd hno rfl (by rw [hl, hu])) (handed_of ru) ⟨v, H1, I1.tok _, ru, q⟩
/-- built-in functions and types that are called -/
inductive Bi where
  | len | isinstance | int | bool | str | list | tuple | sorted | min | max | abs | sum | any | all | dict
  deriving DecidableEq
/-- methods of built-in values -/
inductive Mt where
  | append | pop | popAt | extend | clear | reverse | index | count | insert | dget1 | dget2 | dpop1 | dpop2 | split | join | isdigit | update | remove
  deriving DecidableEq
mutual
inductive E where
  | var (i : Nat) | glob (x : Str) | bltn (x : Str)
  | int (i : Int) | str (s : Str) | bl (b : Bool) | non
  | bin (op : Operator) (a b : E) | neg (a : E) | nt (a : E)
  | cmp (op : CmpOp) (a b : E) | chain (o1 o2 : CmpOp) (a b c : E)
  | and2 (a b : E) | or2 (a b : E) | ife (t : T) (a b : E)
  | fld (a : E) (f : Str) | fldX (a : E) (f : Str) | sub (a i : E) | inG (ng : Bool) (a : E) (x : Str) | subG (x : Str) (i : E) | cut (a : E) (lo hi : O) | rev (a : E) | lenL (a : E)
  | tup (es : Es) | tupS (a b : E) | lst (es : Es) | dct (es : Es) | dct0
  | call (x : Str) (es : Es) | callB (b : Bi) (es : Es) | callL (i : Nat) | enumL (a : E) | rngL (a : E) | callV (a : E) | lam (b : E) | callZ (x : Str) (es : Es) | meth (a : E) (m : Str) (ms : List Mt) (es : Es)
  | comp (elt : E) (tg : Tg) (it : I) (tt : T) (own : List Nat) | compL (elt : E) (tg : Tg) (it : I) (tt : T) (own : List Nat)
  | lstS (a b : E) | srt (a : E) (i : Nat) (b : E) | dcomp (kx vx : E) (tg : Tg) (it : I) (tt : T) (own : List Nat) | lenS (elt : E) (tg : Tg) (it : I) (tt : T) (own : List Nat)
inductive Es where
  | nil | cons (e : E) (es : Es)
inductive O where
  | no | part (e : E)
inductive T where
  | yes | nt (a : T) | and2 (a b : T) | or2 (a b : T) | cmp (e : E) | val (e : E)
inductive I where
  | rng1 (a : E) | rng2 (a b : E) | seq (e : E) | enum (e : E) | zip (a b : E) | items (e : E)
inductive Tg where
  | nm (i : Nat) | tp (is : List Nat)
end
/-- targets of an unpacking: names and items -/
inductive Tts where
  | nil | nm (i : Nat) (r : Tts) | sb (a i : E) (r : Tts) | at (a : E) (f : Str) (r : Tts)
def Tts.len : Tts → Nat
  | .nil => 0
  | .nm _ r => r.len + 1
  | .sb _ _ r => r.len + 1
  | .at _ _ r => r.len + 1
mutual
inductive S where
  | set (i : Nat) (e : E) | setTup (ts : Tts) (e : E) | par (i j : Nat) (a b : E) | par3 (i j l : Nat) (a b c : E) | setFld (a : E) (f : Str) (e : E) | setSub (a i e : E)
  | aug (i : Nat) (op : Operator) (e : E) | augFld (a : E) (f : Str) (op : Operator) (e : E)
  | ret (e : E) | retN | exp (e : E) | doc | pass | brk | cont
  | ifs (t : T) (a b : Ss) | whl (t : T) (a : Ss) | fors (tg : Tg) (it : I) (a : Ss)
  | raise (x : Str) | raiseV (x : Str) (e : E) | retC (x : Str) (es : Es) (tg : Tg) (it : I) (own : List Nat) | unpS (i j : Nat) (e : E) | dead | tryAs (x : Str) (i : Nat) (a b : Ss) | tryOn (x : Str) (a b : Ss) | del (a i : E)
inductive Ss where
  | nil | cons (s : S) (r : Ss)
end
def rBin (K : PySem.W.Frag) : Operator → R2
  | .Add => fun x y H Q => rI0 (fun i j => .int (i + j)) x y H Q ∨ (∃ i j, x = .str i ∧ y = .str j ∧ i.length + j.length ≤ sizeLine ∧ Q (.str (i ++ j)) H) ∨ rCat x y H Q ∨ rCatA K x y H Q
  | .Sub => rI0 fun i j => .int (i - j)
  | .Mult => fun x y H Q => rI CMul (fun i j => .int (i * j)) x y H Q ∨ rI CMulW (fun i j => .int (i * j)) x y H Q ∨ rRep x y H Q
  | .FloorDiv => fun x y H Q => rI CDivW (fun i j => .int (i / j)) x y H Q
  | .Mod => rI (fun _ j => 0 < j) fun i j => .int (i % j)
  | .Pow => rI CPow fun i j => .int (i ^ j.toNat)
  | _ => fun _ _ _ _ => False
def rDIn (neg : Bool) : R2 := fun y x H Q => ∃ a o, x = .ref a ∧ DGet H a y o ∧ Q (.bl (if neg then !o.isSome else o.isSome)) H
/-- the one text within the other -/
def rInS : R2 := fun x y H Q => ∃ (c : Nat) (z : Str), x = .str ⟨#[c]⟩ ∧ y = .str z ∧ Q (.bl (decide (c ∈ z.cps.toList))) H
def rNotInS : R2 := fun x y H Q => ∃ (c : Nat) (z : Str), x = .str ⟨#[c]⟩ ∧ y = .str z ∧ Q (.bl (!decide (c ∈ z.cps.toList))) H
def rCmp (K : PySem.W.Frag) : CmpOp → R2
  | .Eq => fun x y H Q => rEq x y H Q ∨ rEqD K x y H Q ∨ rEqV K x y H Q ∨ rEqN x y H Q
  | .NotEq => fun x y H Q => rNe x y H Q ∨ rNeD K x y H Q ∨ rNeN x y H Q
  | .Lt => rI0 fun i j => .bl (decide (i < j))
  | .LtE => rI0 fun i j => .bl (decide (i ≤ j))
  | .Gt => rI0 fun i j => .bl (decide (j < i))
  | .GtE => rI0 fun i j => .bl (decide (j ≤ i))
  | .Is => fun x y H Q => y = .non ∧ Q (.bl (decide (x = .non))) H
  | .IsNot => fun x y H Q => y = .non ∧ Q (.bl (!decide (x = .non))) H
  | .In => fun x y H Q => rIn K false x y H Q ∨ rInD K x y H Q ∨ rDIn false x y H Q ∨ rInS x y H Q
  | .NotIn => fun x y H Q => rIn K true x y H Q ∨ rNotInD K x y H Q ∨ rDIn true x y H Q ∨ rNotInS x y H Q
def rIxD : R2 := fun x y H Q => ∃ a v, x = .ref a ∧ DGet H a y (some v) ∧ Q v H
def rSubs (K : PySem.W.Frag) : R2 := fun x y H Q => rIx K x y H Q ∨ rIxD x y H Q
def rCut (K : PySem.W.Frag) : V → Option Int → Option Int → Hp → VK → Prop := fun x lo hi H Q => rSlL K x lo hi H Q ∨ rSlA K x lo hi H Q ∨ rSlS x lo hi H Q
/-- whether a dict of the module has a key -/
def KHas (K : PySem.W.Frag) (w : World) (p : Addr) (z : Str) (b : Bool) : Prop := ∃ es n r, K.lookup p = some ⟨.type "dict", none, .dict es n, #[]⟩ ∧ PySem.W.KeysLit w.params es.toList ∧ (p == sysModules) = false ∧ PySem.W.nsIn K p z = some r ∧ r.isSome = b
def rInK (K : PySem.W.Frag) (w : World) (ng : Bool) : R2 := fun x y H Q => ∃ p z b, x = .str z ∧ y = .ref p ∧ KHas K w p z b ∧ Q (.bl (if ng = true then !b else b)) H
def rFld (K : PySem.W.Frag) (x : V) (f : Str) (H : Hp) (Q : VK) : Prop := ∃ a C dx fs v, x = .ref a ∧ H a = some (.ins C dx fs) ∧ Cls K C ∧ NoAttr K C f ∧ fs.lookup f = some v ∧ Q v H
/-- the exception that a suite holds: where, its class, its dict -/
abbrev XC := Option (Addr × Value × Option Addr)
def rIsH (K : PySem.W.Frag) (xc : XC) : List V → Hp → VK → Prop := fun xs H Q => ∃ a C d, xc = some (a, .ref C, d) ∧ (d = none ∨ ∃ dd fs, d = some dd ∧ H dd = some (.xd fs)) ∧ ExcC K C ∧ rIsE K C a xs H Q
def rBi (K : PySem.W.Frag) (xc : XC) : Bi → List V → Hp → VK → Prop
  | .len => fun xs H Q => (∃ x n, xs = [x] ∧ LenV K x H n ∧ (n ≤ sizeLine → Q (.int n) H)) ∨ ∃ a ks, xs = [.ref a] ∧ H a = some (.dK ks) ∧ Q (.int (ks.length : Nat)) H
  | .isinstance => fun xs H Q => (rIsi K xs H Q ∨ rIsiT K xs H Q) ∨ rIsH K xc xs H Q
  | .int => fun xs H Q => ((∃ i, xs = [.int i] ∧ Q (.int i) H) ∨ ∃ k, xs = [.bl k] ∧ Q (.int (if k then 1 else 0)) H) ∨ ∃ a n, xs = [.str a] ∧ PySem.intText? a = some n ∧ a.length ≤ 640 ∧ Q (.int n) H
  | .bool => fun xs H Q => (∃ i, xs = [.int i] ∧ Q (.bl (i != 0)) H) ∨ ∃ k, xs = [.bl k] ∧ Q (.bl k) H
  | .str => fun xs H Q => (∃ i, xs = [.int i] ∧ i.natAbs.log2 < 1920 ∧ Q (.str (toString i)) H) ∨ ∃ a, xs = [.str a] ∧ Q (.str a) H
  | .list => fun xs H Q => ∃ p ys, xs = [.ref p] ∧ (SqL K H p ys ∨ SqT K H p ys) ∧ ∀ l, H l = none → Q (.ref l) (upd H l (.lst ys))
  | .tuple => fun xs H Q => ∃ p ys, xs = [.ref p] ∧ ((SqL K H p ys ∧ ∀ l, H l = none → Q (.ref l) (upd H l (.tup ys))) ∨ (SqT K H p ys ∧ Q (.ref p) H))
  | .sorted => fun xs H Q => rSorted K xs H Q ∨ rSortK xs H Q ∨ rSortD K xs H Q
  | .min => fun xs H Q => ∃ i j, xs = [.int i, .int j] ∧ Q (.int (if j < i then j else i)) H
  | .max => fun xs H Q => ∃ i j, xs = [.int i, .int j] ∧ Q (.int (if j > i then j else i)) H
  | .abs => fun xs H Q => ∃ i, xs = [.int i] ∧ Q (.int (if i < 0 then -i else i)) H
  | .sum => rSum K
  | .any => rAny K
  | .all => rAll K
  | .dict => fun xs H Q => ∃ (a : Addr) (ps : List Addr) (kvs : List (Key × V)), xs = [.ref a] ∧ SqL K H a (ps.map V.ref) ∧ Paired (fun p kv => SqT K H p [kV kv.1, kv.2]) ps kvs ∧ ∀ p, H p = none → Q (.ref p) (upd H p (.dK (mergeK [] kvs)))
def setMany : L2.St → List Nat → List V → L2.St
  | σ, i :: is, v :: vs => setMany (σ.set i (some v)) is vs
  | σ, _, _ => σ
def rUnp (K : PySem.W.Frag) (is : List Nat) : TG := fun v σ H Q => ∃ a xs, v = .ref a ∧ (SqT K H a xs ∨ SqL K H a xs) ∧ xs.length = is.length ∧ Q (setMany σ is xs) H
def gTg (K : PySem.W.Frag) : Tg → TG
  | .nm i => gName i
  | .tp is => rUnp K is
/-- methods of built-in values -/
def mtT : Mt → String
  | .append | .pop | .popAt | .extend | .clear | .reverse | .index | .count | .insert | .remove => "list"
  | .dget1 | .dget2 | .dpop1 | .dpop2 | .update => "dict"
  | .split | .join | .isdigit => "str"
def rMt (K : PySem.W.Frag) : Mt → V → List V → Hp → VK → Prop
  | .append => rAppend
  | .pop => rPop
  | .popAt => rPopAt
  | .extend => fun x vs H Q => rExtend x vs H Q ∨ rExtendT K x vs H Q
  | .clear => rClear
  | .reverse => rReverse
  | .index => fun x xs H Q => rIndex K x xs H Q ∨ rIndexD K x xs H Q
  | .count => fun x xs H Q => ∃ a ys y, x = .ref a ∧ xs = [y] ∧ SqL K H a ys ∧ flatV y = true ∧ ys.all flatV = true ∧ Q (.int (ys.countP fun z => eqV z y : Nat)) H
  | .insert => fun x vs H Q => ∃ (l : Addr) (xs : List V) (i : Int) (y : V), x = .ref l ∧ vs = [.int i, y] ∧ H l = some (.lst xs) ∧ xs.length < sizeLine ∧ 0 ≤ i ∧ i < 2 ^ 63 ∧ Q .non (upd H l (.lst (xs.take i.toNat ++ [y] ++ xs.drop i.toNat)))
  | .dget1 => fun x vs H Q => ∃ a y o, x = .ref a ∧ vs = [y] ∧ DGet H a y o ∧ Q (o.getD .non) H
  | .dget2 => fun x vs H Q => ∃ a y d o, x = .ref a ∧ vs = [y, d] ∧ DGet H a y o ∧ Q (o.getD d) H
  | .dpop1 => fun x vs H Q => ∃ a kvs k v, x = .ref a ∧ vs = [kV k] ∧ H a = some (.dK kvs) ∧ valV kvs k = some v ∧ Q v (upd H a (.dK (dropK kvs k)))
  | .dpop2 => fun x vs H Q => ∃ a kvs k d, x = .ref a ∧ vs = [kV k, d] ∧ H a = some (.dK kvs) ∧ ((∃ v, valV kvs k = some v ∧ Q v (upd H a (.dK (dropK kvs k)))) ∨ (valV kvs k = none ∧ Q d H))
  | .split => fun x xs H Q => ∃ a b, x = .str a ∧ xs = [.str b] ∧ (b.length == 0) = false ∧ a.length + 2 ≤ sizeLine ∧ rNewStrs (Txt.split a b) H Q
  | .join => fun x xs H Q => ∃ a p, ∃ ys : List Str, x = .str a ∧ xs = [.ref p] ∧ (SqL K H p (ys.map V.str) ∨ SqT K H p (ys.map V.str)) ∧ (ys.map (·.length)).sum + ys.length * a.length ≤ 16777216 ∧ Q (.str (Txt.join a ys)) H
  | .remove => fun x xs H Q => rRemI x xs H Q ∨ rRemD K x xs H Q
  | .isdigit => fun x xs H Q => ∃ a, x = .str a ∧ xs = [] ∧ True ∧ Q (.bl (Txt.isdigit a)) H
  | .update => fun x vs H Q => ∃ a b kvs more, x = .ref a ∧ vs = [.ref b] ∧ a ≠ b ∧ H a = some (.dK kvs) ∧ H b = some (.dK more) ∧ kvs.length + more.length ≤ sizeLine ∧ Q .non (upd H a (.dK (mergeK kvs more)))
/-- no exception -/
abbrev W0 : WX := fun _ _ _ _ => False
/-- the lambdas that a frame made: where, what is known there, what each promises by level, slots and cells -/
abbrev MT := Addr → List (Addr × HO) → (Nat → L2.St → Hp → Sp) → Prop
structure Rx extends Rt where
  T : List (Addr × Str)
  M : MT
  xc : XC := none
mutual
def wE (R : Rx) (k : Nat) : E → WX → L2.St → Hp → VK → Prop
  | .var i, _, σ, H, Q => ∃ v, σ[i]? = some (some v) ∧ Q v H
  | .glob x, _, _, H, Q => ∃ v u, R.mg x = some u ∧ RelV v u ∧ Q v H
  | .bltn x, _, _, H, Q => ∃ v u, bootBuiltins x = some u ∧ RelV v u ∧ Q v H
  | .int i, _, _, H, Q => Q (.int i) H
  | .str z, _, _, H, Q => Q (.str z) H
  | .bl b, _, _, H, Q => Q (.bl b) H
  | .non, _, _, H, Q => Q .non H
  | .bin op a b, W, σ, H, Q => wE R k a W σ H fun x H1 => wE R k b W σ H1 fun y H2 => rBin R.K op x y H2 Q
  | .neg a, W, σ, H, Q => wE R k a W σ H fun x H1 => ∃ i, x = .int i ∧ Q (.int (-i)) H1
  | .nt a, W, σ, H, Q => wE R k a W σ H fun x H1 => ∃ c, TruV R.K x H1 c ∧ Q (.bl (!c)) H1
  | .cmp op a b, W, σ, H, Q => wE R k a W σ H fun x H1 => wE R k b W σ H1 fun y H2 => rCmp R.K op x y H2 Q
  | .inG ng a x, W, σ, H, Q => wE R k a W σ H fun v H1 => ∃ y u, R.mg x = some u ∧ RelV y u ∧ (rInK R.K R.w ng v y H1 Q ∨ rCmp R.K (if ng = true then .NotIn else .In) v y H1 Q)
  | .subG x i, W, σ, H, Q => ∃ y u, R.mg x = some u ∧ RelV y u ∧ wE R k i W σ H fun v H1 => (L2.rIxD R.K R.w y v H1 Q ∨ rSubs R.K y v H1 Q)
  | .chain o1 o2 a b c, W, σ, H, Q => wE R k a W σ H fun x H1 => wE R k b W σ H1 fun y H2 => rCmp R.K o1 x y H2 fun z H3 => ∃ c1, z = .bl c1 ∧
      if c1 = true then wE R k c W σ H3 fun v H4 => rCmp R.K o2 y v H4 Q else Q (.bl false) H3
  | .and2 a b, W, σ, H, Q => wE R k a W σ H fun x H1 => ∃ c, TruV R.K x H1 c ∧ if c = true then wE R k b W σ H1 Q else Q x H1
  | .or2 a b, W, σ, H, Q => wE R k a W σ H fun x H1 => ∃ c, TruV R.K x H1 c ∧ if c = true then Q x H1 else wE R k b W σ H1 Q
  | .ife t a b, W, σ, H, Q => wT R k t W σ H fun c H1 => if c = true then wE R k a W σ H1 Q else wE R k b W σ H1 Q
  | .fld a f, W, σ, H, Q => wE R k a W σ H fun x H1 => rFld R.K x f H1 Q
  | .fldX a f, W, σ, H, Q => wE R k a W σ H fun x H1 => rFldX R.K R.xc x f H1 Q
  | .sub a i, W, σ, H, Q => wE R k a W σ H fun x H1 => wE R k i W σ H1 fun y H2 => rSubs R.K x y H2 Q
  | .cut a lo hi, W, σ, H, Q => wE R k a W σ H fun x H1 => wO R k lo W σ H1 fun l H2 => wO R k hi W σ H2 fun u H3 => rCut R.K x l u H3 Q
  | .lenL a, W, σ, H, Q => wE R k a W σ H fun x H1 => rLenL R.K R.P R.w x H1 Q
  | .rev a, W, σ, H, Q => wE R k a W σ H fun x H1 => rRev R.K x H1 Q ∨ rRevS x H1 Q
  | .tup es, W, σ, H, Q => wEs R k es W σ H fun xs H1 => xs.length ≤ sizeLine ∧ ∀ p, H1 p = none → Q (.ref p) (upd H1 p (.tup xs))
  | .tupS a b, W, σ, H, Q => wE R k a W σ H fun x H1 => wE R k b W σ H1 fun y H2 => ∃ p xs, y = .ref p ∧ (SqT R.K H2 p xs ∨ SqL R.K H2 p xs) ∧ (x :: (xs ++ [])).length ≤ sizeLine ∧ ∀ p, H2 p = none → Q (.ref p) (upd H2 p (.tup (x :: (xs ++ []))))
  | .lst es, W, σ, H, Q => wEs R k es W σ H fun xs H1 => xs.length ≤ sizeLine ∧ ∀ p, H1 p = none → Q (.ref p) (upd H1 p (.lst xs))
  | .dct es, W, σ, H, Q => tDisp (wPs R k es W) σ H Q
  | .dct0, _, σ, H, Q => tDNewK σ H Q ∨ tDNewT σ H Q
  | .call x es, W, σ, H, Q => ∃ f, R.mg x = some (.ref f) ∧ PySem.W.keepIn R.K (.ref f) = true ∧ wEs R k es W σ H fun vs H1 => ∃ sp, CallOk R.toRt k f sp ∧ sp vs H1 Q (WE W σ)
  | .callB b es, W, σ, H, Q => wEs R k es W σ H fun vs H1 => rBi R.K R.xc b vs H1 Q
  | .callL i, W, σ, H, Q => ∃ f G sp, σ[i]? = some (some (.ref f)) ∧ G H ∧ LamOk R.toRt k f G sp ∧ sp [] H Q (WE W σ)
  | .enumL a, W, σ, H, Q => wE R k a W σ H fun x H1 => rEnl R.K x H1 Q
  | .rngL a, W, σ, H, Q => wE R k a W σ H fun x H1 => rRgl x H1 Q
  | .callV a, W, σ, H, Q => wE R k a W σ H fun x H1 => ∃ f, x = .ref f ∧ ∀ cz : Hp, CzK cz → (∀ a o, cz a = some o → H1 a = none) → (∀ f fz φ, R.M f fz φ → ∀ j, LamOk R.toRt (j + 1) f (knows cz fz) (φ j σ cz)) →
      ∃ G sp, LamOk R.toRt k f G sp ∧ G (join cz H1) ∧ sp [] (join cz H1) (fun v H2 => (∀ a o, cz a = some o → H2 a = some o) → Q v (less cz H2)) fun _ _ _ => False
  | .lam b, _, _, H, Q => tabsOk R.T H ∧ ∀ f fz H1, KeepT R.T H H1 → tabsOk R.T H1 → (∀ p ∈ fz, H1 p.1 = some p.2) → (∀ p ∈ fz, fixO p.2 = true) → R.M f fz (fun j σ cz => spLam (fun Ex σ H Q => wE R j b (fun cls d _ H' => Ex cls d H') σ H Q) σ cz) → Q (.ref f) H1
  | .callZ x es, W, σ, H, Q => ∃ g, R.mg x = some (.ref g) ∧ PySem.W.keepIn R.K (.ref g) = true ∧ wEs R k es W σ H fun vs H1 => ∃ sp, CallEnv R.toRt k g sp ∧ ∀ cz : Hp, CzK cz → (∀ a o, cz a = some o → H1 a = none) →
      (∀ f fz φ, R.M f fz φ → ∀ j, LamOk R.toRt (j + 1) f (knows cz fz) (φ j σ cz)) → sp vs (join cz H1) (fun v H2 => (∀ a o, cz a = some o → H2 a = some o) → Q v (less cz H2)) fun _ _ _ => False
  | .meth a m ms es, W, σ, H, Q => wE R k a W σ H fun x H1 =>
      (R.xc = none ∧ ∃ p C dx fs g, x = .ref p ∧ H1 p = some (.ins C dx fs) ∧ Cls R.K C ∧ Meth R.K C m g ∧ fs.lookup m = none ∧
        wEs R k es W σ H1 fun vs H2 => ∃ sp, CallOk R.toRt k g sp ∧ sp (x :: vs) H2 Q (WE W σ)) ∨
      (∃ t, t ∈ ms ∧ tyV R.K (mtT t) x H1 ∧ wEs R k es W σ H1 fun vs H2 => rMt R.K t x vs H2 Q)
  | .comp elt tg it tt own, W, σ, H, Q =>
      tLc (fun σ H S => wI R k it W σ H S) (gTg R.K tg) (fun σ H S => wT R k tt W0 σ H S) (fun σ H S => wE R k elt W0 σ H S) own σ H Q ∨
      tLockE (tLc (fun σ H S => wI R k it W0 σ H S) (gTg R.K tg) (fun σ H S => wT R k tt W0 σ H S) (fun σ H S => wE R k elt W0 σ H S) own) σ H Q
  | .compL elt tg it tt own, W, σ, H, Q =>
      tLc (fun σ H S => wI R k it W σ H S) (gTg R.K tg) (fun σ H S => wT R k tt W0 σ H S) (fun σ' H S => ∀ M' : MT, (∀ f fz φ, R.M f fz φ → M' f fz fun j _ cz => φ j σ cz) → wE { R with M := M' } k elt W0 σ' H S) own σ H Q ∨
      tLockE (fun σ => tLc (fun σ H S => wI R k it W0 σ H S) (gTg R.K tg) (fun σ H S => wT R k tt W0 σ H S) (fun σ' H S => ∀ M' : MT, (∀ f fz φ, R.M f fz φ → M' f fz fun j _ cz => φ j σ cz) → wE { R with M := M' } k elt W0 σ' H S) own σ) σ H Q
  | .lstS a b, W, σ, H, Q => wE R k a W σ H fun x H1 => ∃ p xs, x = .ref p ∧ (SqT R.K H1 p xs ∨ SqL R.K H1 p xs) ∧ wE R k b W σ H1 fun y H2 => (xs ++ (y :: [])).length ≤ sizeLine ∧ ∀ p, H2 p = none → Q (.ref p) (upd H2 p (.lst (xs ++ (y :: []))))
  | .srt a i b, W, σ, H, Q => 3 ≤ k ∧ tSrt R.K R.T (fun σ H S => wE R k a W σ H S) (fun σ H S => wE R 0 b W0 σ H S) i σ H Q
  | .dcomp kx vx tg it tt own, _, σ, H, Q =>
      tDc (fun σ H S => wI R k it W0 σ H S) (gTg R.K tg) (fun σ H S => wT R k tt W0 σ H S) (fun σ H S => wE R k kx W0 σ H S) (fun σ H S => wE R k vx W0 σ H S) own σ H Q ∨
      tLockE (tDc (fun σ H S => wI R k it W0 σ H S) (gTg R.K tg) (fun σ H S => wT R k tt W0 σ H S) (fun σ H S => wE R k kx W0 σ H S) (fun σ H S => wE R k vx W0 σ H S) own) σ H Q
  | .lenS elt tg it tt own, _, σ, H, Q => tSi R.w (fun σ H S => wI R k it W0 σ H S) (gTg R.K tg) (fun σ H S => wT R k tt W0 σ H S) (fun σ H S => wE R k elt W0 σ H S) own σ H fun x H1 => rLenSet R.w [x] H1 Q
def wEs (R : Rx) (k : Nat) : Es → WX → L2.St → Hp → (List V → Hp → Prop) → Prop
  | .nil, _, _, H, Q => Q [] H
  | .cons e es, W, σ, H, Q => wE R k e W σ H fun x H1 => wEs R k es W σ H1 fun xs H2 => Q (x :: xs) H2
def wPs (R : Rx) (k : Nat) : Es → WX → List (TE × TE)
  | .cons a (.cons b r), W => (fun σ H Q => wE R k a W σ H Q, fun σ H Q => wE R k b W σ H Q) :: wPs R k r W
  | _, _ => []
def wO (R : Rx) (k : Nat) : O → WX → L2.St → Hp → (Option Int → Hp → Prop) → Prop
  | .no, _, _, H, Q => Q none H
  | .part e, W, σ, H, Q => wE R k e W σ H fun x H1 => ∃ i, x = .int i ∧ Q (some i) H1
def wT (R : Rx) (k : Nat) : T → WX → L2.St → Hp → (Bool → Hp → Prop) → Prop
  | .yes, _, _, H, Q => Q true H
  | .nt a, W, σ, H, Q => wT R k a W σ H fun c H1 => Q (!c) H1
  | .and2 a b, W, σ, H, Q => wT R k a W σ H fun c H1 => if c = true then wT R k b W σ H1 Q else Q false H1
  | .or2 a b, W, σ, H, Q => wT R k a W σ H fun c H1 => if c = true then Q true H1 else wT R k b W σ H1 Q
  | .cmp e, W, σ, H, Q => wE R k e W σ H fun x H1 => ∃ c, x = .bl c ∧ Q c H1
  | .val e, W, σ, H, Q => wE R k e W σ H fun x H1 => ∃ c, TruV R.K x H1 c ∧ Q c H1
def wI (R : Rx) (k : Nat) : I → WX → L2.St → Hp → (It → Hp → Prop) → Prop
  | .rng1 a, W, σ, H, S => wE R k a W σ H fun x H1 => ∃ j : Int, x = .int j ∧ -(2 ^ 62) ≤ j ∧ j < 2 ^ 62 ∧ S (Itr 0 j.toNat) H1
  | .rng2 a b, W, σ, H, S => wE R k a W σ H fun x H1 => wE R k b W σ H1 fun y H2 => ∃ i j : Int, x = .int i ∧ y = .int j ∧ (-(2 ^ 62) ≤ i ∧ i < 2 ^ 62 ∧ -(2 ^ 62) ≤ j ∧ j < 2 ^ 62) ∧ S (Itr i (j - i).toNat) H2
  | .seq e, W, σ, H, S => wE R k e W σ H fun x H1 => (∃ a, x = .ref a ∧ (∃ xs, SqL R.K H1 a xs) ∧ S (Itl R.K a) H1) ∨ (∃ a, x = .ref a ∧ (∃ xs, SqT R.K H1 a xs) ∧ S (Itt R.K a) H1) ∨
      (∃ d o kvs, x = .ref d ∧ H1 d = some (.frz o (.dK kvs)) ∧ S (Itk d o kvs) H1) ∨ (∃ z, x = .str z ∧ S (Its z) H1) ∨ (∃ d o kvs, x = .ref d ∧ H1 d = some (.frz o (.dT kvs)) ∧ S (Itkt d o kvs) H1)
  | .enum e, W, σ, H, S => wE R k e W σ H fun x H1 => (∃ a xs, x = .ref a ∧ SqL R.K H1 a xs ∧ S (Ite R.K a) H1) ∨ ∃ a xs, x = .ref a ∧ SqT R.K H1 a xs ∧ S (Iet R.K a) H1
  | .zip a b, W, σ, H, S => wE R k a W σ H fun x H1 => wE R k b W σ H1 fun y H2 => ∃ p q xs ys, x = .ref p ∧ y = .ref q ∧ SqL R.K H2 p xs ∧ SqL R.K H2 q ys ∧ S (Itz R.K p q) H2
  | .items e, W, σ, H, S => wE R k e W σ H fun x H1 => ∃ d o kvs, x = .ref d ∧ H1 d = some (.frz o (.dK kvs)) ∧ S (Iti d o kvs) H1
end
/-- what an own exception's class has (one without an __init__ of its own) -/
structure ExcOk (K : PySem.W.Frag) (C : Addr) : Prop where
  ex : PySem.W.excIn K C [.type "ValueError", .type "Exception", .type "BaseException", .type "object"] "ValueError.__new__" = true
  kp : PySem.W.keepIn K (.ref C) = true
  sb : PySem.W.subIn K (.ref C) (.type "BaseException") = some true
  ty : PySem.W.typeIn K (.ref C) = some (.type "type")
def rAug (op : Operator) : TIp := match op with
  | .Add => fun x y H Q => (∃ i j, x = .int i ∧ y = .int j ∧ Q (.int (i + j)) H) ∨ ∃ i j, x = .str i ∧ y = .str j ∧ i.length + j.length ≤ sizeLine ∧ Q (.str (i ++ j)) H
  | .Sub => fun x y H Q => ∃ i j, x = .int i ∧ y = .int j ∧ Q (.int (i - j)) H
  | _ => fun _ _ _ _ => False
def wTts (R : Rx) (k : Nat) : Tts → WX → List V → L2.St → Hp → (L2.St → Hp → Prop) → Prop
  | .nil, _, _, σ, H, Q => Q σ H
  | .nm i r, W, v :: vs, σ, H, Q => wTts R k r W vs (σ.set i (some v)) H Q
  | .sb a i r, W, v :: vs, σ, H, Q => wE R k a W σ H fun x H2 => wE R k i W σ H2 fun y H3 => rSetL x y v H3 (fun H4 => wTts R k r W vs σ H4 Q) ∨ ∃ p H4, x = .ref p ∧ DPut H3 p y v H4 ∧ wTts R k r W vs σ H4 Q
  | .at a f r, W, v :: vs, σ, H, Q => wE R k a W σ H fun x H2 => ∃ p C dx fs, x = .ref p ∧ H2 p = some (.ins C dx fs) ∧ Cls R.K C ∧ NoAttr R.K C f ∧ fs.length < 1000 ∧ wTts R k r W vs σ (upd H2 p (.ins C dx (putF f v fs))) Q
  | _, _, _, _, _, _ => False
def rAugF (op : Operator) : V → V → Hp → VK → Prop := match op with
  | .Add => rAdd
  | .Sub => rSub
  | _ => fun _ _ _ _ => False
mutual
def wS (R : Rx) (k : Nat) : S → WX → Ends → L2.St → Hp → Prop
  | .set i e, W, D, σ, H => wE R k e W σ H fun v H1 => D.nx (σ.set i (some v)) H1
  | .setTup ts e, W, D, σ, H => wE R k e W σ H fun v H1 => ∃ a xs, v = .ref a ∧ (SqT R.K H1 a xs ∨ SqL R.K H1 a xs) ∧ xs.length = ts.len ∧ wTts R k ts W xs σ H1 D.nx
  | .par i j a b, W, D, σ, H => wE R k a W σ H fun v H1 => wE R k b W σ H1 fun w H2 => D.nx ((σ.set i (some v)).set j (some w)) H2
  | .par3 i j l a b c, W, D, σ, H => wE R k a W σ H fun v H1 => wE R k b W σ H1 fun w H2 => wE R k c W σ H2 fun u H3 => D.nx (((σ.set i (some v)).set j (some w)).set l (some u)) H3
  | .setFld a f e, W, D, σ, H => wE R k e W σ H fun y H1 => wE R k a W σ H1 fun x H2 => ∃ p C dx fs, x = .ref p ∧ H2 p = some (.ins C dx fs) ∧ Cls R.K C ∧ NoAttr R.K C f ∧ fs.length < 1000 ∧ D.nx σ (upd H2 p (.ins C dx (putF f y fs)))
  | .setSub a i e, W, D, σ, H => wE R k e W σ H fun v H1 => wE R k a W σ H1 fun x H2 => wE R k i W σ H2 fun y H3 => rSetL x y v H3 (D.nx σ) ∨ ∃ p H4, x = .ref p ∧ DPut H3 p y v H4 ∧ D.nx σ H4
  | .aug i op e, W, D, σ, H => ∃ x, σ[i]? = some (some x) ∧ wE R k e W σ H fun y H1 => rAug op x y H1 fun z H2 => D.nx (σ.set i (some z)) H2
  | .augFld a f op e, W, D, σ, H => sFldAug R.K (fun σ H S => wE R k a W σ H S) (fun σ H S => wE R k e W σ H S) (rAugF op) f D σ H
  | .ret e, W, D, σ, H => wE R k e W σ H D.rt
  | .retN, _, D, _, H => D.rt .non H
  | .exp e, W, D, σ, H => wE R k e W σ H fun _ H1 => D.nx σ H1
  | .doc, _, D, σ, H => D.nx σ H
  | .pass, _, D, σ, H => D.nx σ H
  | .brk, _, D, σ, H => D.bk σ H
  | .cont, _, D, σ, H => D.ct σ H
  | .ifs t a b, W, D, σ, H => wT R k t W σ H fun c H1 => if c = true then wSs R k a W D σ H1 else wSs R k b W D σ H1
  | .whl t a, W, D, σ, H => tWhile (fun σ H S => wT R k t W σ H S) (fun D σ H => wSs R k a W D σ H) D σ H
  | .fors tg it a, W, D, σ, H =>
      tFor (fun σ H S => wI R k it W σ H S) (gTg R.K tg) (fun D σ H => wSs R k a W D σ H) D σ H ∨
      tLock (tFor (fun σ H S => wI R k it W0 σ H S) (gTg R.K tg) (fun D σ H => wSs R k a W0 D σ H)) D σ H
  | .tryAs x i a b, W, D, σ, H => ∃ c, (R.mg x = some c ∨ (R.mg x = none ∧ bootBuiltins x = some c ∧ x ≠ "__name__")) ∧ wSs R k a (wAs R.K c i (fun p cls d D' σ' H' => wSs { R with xc := some (p, cls, d) } k b W0 D' σ' H') W D) D σ H
  | .tryOn x a b, W, D, σ, H => ∃ c, (R.mg x = some c ∨ (R.mg x = none ∧ bootBuiltins x = some c ∧ x ≠ "__name__")) ∧ wSs R k a (wOnly R.K c (fun p cls d D' σ' H' => wSs { R with xc := some (p, cls, d) } k b W0 D' σ' H') W D) D σ H
  | .unpS i j e, W, D, σ, H => wE R k e W σ H fun v H1 => ∃ p x rest, v = .ref p ∧ SqL R.K H1 p (x :: rest) ∧ ∀ q, H1 q = none → D.nx ((σ.set i (some x)).set j (some (.ref q))) (upd H1 q (.lst rest))
  | .dead, _, _, _, _ => False
  | .raiseV x e, W, D, σ, H => ∃ C nm, R.mg x = some (.ref C) ∧ RowOk R.P R.w R.K R.mg R.base C nm ∧ 3 ≤ k ∧ wE R k e W σ H fun v H1 => ∃ i, v = .int i ∧ i.natAbs < 10 ^ 9 ∧ ∀ d, H1 d = none → W (.ref C) (some d) σ (upd H1 d (.xd [("row", .int i), ("kind", .str nm)]))
  | .retC x es tg it own, W, D, σ, H => tLc (fun σ H S => wI R k it W σ H S) (gTg R.K tg) (fun _ H S => S true H)
      (fun σ' H' S => ∃ f, R.mg x = some (.ref f) ∧ PySem.W.keepIn R.K (.ref f) = true ∧ wEs R k es W0 σ' H' fun vs H1 => ∃ sp, CallOk R.toRt k f sp ∧ sp vs H1 S fun c d H2 => W c d σ H2) own σ H D.rt
  | .del a i, W, D, σ, H => sDDel (fun σ H S => wE R k a W σ H S) (fun σ H S => wE R k i W σ H S) D σ H
  | .raise x, W, D, σ, H => (∃ C, R.mg x = some (.ref C) ∧ ExcOk R.K C ∧ W (.ref C) none σ H) ∨ ∃ C nm, R.mg x = some (.ref C) ∧ ErrOk R.P R.w R.K R.mg R.base C nm ∧ 2 ≤ k ∧ ∀ d, H d = none → W (.ref C) (some d) σ (upd H d (.xd [("kind", .str nm)]))
def wSs (R : Rx) (k : Nat) : Ss → WX → Ends → L2.St → Hp → Prop
  | .nil, _, D, σ, H => D.nx σ H
  | .cons s r, W, D, σ, H => wS R k s W { D with nx := fun σ' H' => wSs R k r W D σ' H' } σ H
end
def ixOf : List Str → Str → Option Nat
  | [], _ => none
  | y :: r, x => if y = x then some 0 else (ixOf r x).map (· + 1)
theorem ixOf_get : ∀ {N : List Str} {x : Str} {i : Nat}, ixOf N x = some i → N[i]? = some x
  | [], _, _, h => by cases h
  | y :: r, x, i, h => by
    unfold ixOf at h
    split at h
    · cases h; simp_all
    · cases e : ixOf r x with
      | none => rw [e] at h; cases h
      | some j =>
        rw [e] at h; cases h
        simpa using ixOf_get e
def visB (sc : Scope) (x : Str) : Bool := match sc.names.lookup x with | some .local => true | some .cell => true | some .free => true | _ => false
def glB (sc : Scope) (x : Str) : Bool := match sc.names.lookup x with | some .globalImplicit => true | _ => false
def okName (x : Str) : Bool := !(x == ("__debug__" : Str)) && !(x == ("__classdict__" : Str)) && !(x == ("__name__" : Str))
theorem visB_vis {sc : Scope} {x : Str} (h : visB sc x = true) : Vis sc x := by
  unfold visB at h
  split at h <;> first | exact .inl (by assumption) | exact .inr (.inl (by assumption)) | exact .inr (.inr (by assumption)) | cases h
theorem glB_gl {sc : Scope} {x : Str} (h : glB sc x = true) : sc.names.lookup x = some .globalImplicit := by
  unfold glB at h
  split at h <;> first | assumption | cases h
theorem okName_d {x : Str} (h : okName x = true) : (x == ("__debug__" : Str)) = false ∧ (x == ("__classdict__" : Str)) = false ∧ x ≠ ("__name__" : Str) := by
  unfold okName at h
  simp only [Bool.and_eq_true, Bool.not_eq_true'] at h
  refine ⟨h.1.1, h.1.2, fun e => ?_⟩
  rw [e] at h
  simp at h
def biAll : List Bi := [.len, .isinstance, .int, .bool, .str, .list, .tuple, .sorted, .min, .max, .abs, .sum, .any, .all, .dict]
def biName : Bi → Str
  | .len => "len" | .isinstance => "isinstance" | .int => "int" | .bool => "bool" | .str => "str" | .list => "list" | .tuple => "tuple"
  | .sorted => "sorted" | .min => "min" | .max => "max" | .abs => "abs" | .sum => "sum" | .any => "any" | .all => "all" | .dict => "dict"
def biOf (x : Str) : Option Bi := biAll.find? fun b => decide (biName b = x)
theorem biOf_name {x : Str} {b : Bi} (h : biOf x = some b) : biName b = x := by
  have := List.find?_some h
  simpa using this
def clsNames : List Str := ["int", "bool", "str", "list", "tuple", "dict", "ValueError"]
def mtAll : List Mt := [.append, .pop, .popAt, .extend, .clear, .reverse, .index, .count, .insert, .dget1, .dget2, .dpop1, .dpop2, .split, .join, .isdigit, .update, .remove]
def mtName : Mt → Str
  | .append => "append" | .pop => "pop" | .popAt => "pop" | .extend => "extend" | .clear => "clear" | .reverse => "reverse" | .index => "index" | .count => "count" | .insert => "insert"
  | .dget1 => "get" | .dget2 => "get" | .dpop1 => "pop" | .dpop2 => "pop" | .split => "split" | .join => "join" | .isdigit => "isdigit" | .update => "update" | .remove => "remove"
def mtsOf (m : Str) : List Mt := mtAll.filter fun t => decide (mtName t = m)
theorem mtsOf_name {m : Str} {t : Mt} (h : t ∈ mtsOf m) : mtName t = m := by
  have := (List.mem_filter.mp h).2
  simpa using this
def nsB : Expr → Bool | .Starred .. => false | _ => true
def callB : Expr → Bool | .Call (.Name _ _) [] [] _ => true | _ => false
def compB : Expr → Bool | .ListComp .. => true | .SetComp .. => true | .DictComp .. => true | _ => false
def slB : Expr → Bool | .Slice .. => true | _ => false
def setB : Expr → Bool | .Set .. => true | _ => false
theorem starEach_ns {e : Expr} {es : List Expr} {env : Env} (h : nsB e = true) : starEach (e :: es) env = (false, eval e env) :: starEach es env := by
  cases e <;> first | rfl | cases h
theorem base_ns {e : Expr} {f : Str} {env : Env} (h : callB e = false) : attributeBase e f env (eval e env) = eval e env := by
  cases e
  case Call func args kws pos => cases func <;> first | rfl | (cases args <;> first | rfl | (cases kws <;> first | rfl | cases h))
  all_goals rfl
theorem swaps_ns {e : Expr} {t : Option Expr} {l : Nat} {env : Env} (h : compB e = false) : swapsWith e t l env = pure false := by
  cases e <;> first | rfl | cases h
theorem plain_ns {e : Expr} (h : slB e = false) : PlainIx e := fun o i => by
  cases e <;> first | rfl | cases h
theorem fold_ns {e : Expr} {env : Env} (h : setB e = false) (x : Value) : foldedSetIterable e env x = pure x := by
  cases e <;> first | rfl | cases h
def cEs (f : Expr → Option E) : List Expr → Option Es
  | [] => some .nil
  | e :: r => match nsB e, f e, cEs f r with
    | true, some m, some ms => some (.cons m ms)
    | _, _, _ => none
def cPs (f : Expr → Option E) : List (Option Expr) → List Expr → Option Es
  | [], [] => some .nil
  | some a :: r, b :: q => match f a, f b, cPs f r q with
    | some m, some n, some ms => some (.cons m (.cons n ms))
    | _, _, _ => none
  | _, _ => none
def cO (f : Expr → Option E) : Option Expr → Option O
  | none => some .no
  | some e => (f e).map .part
def nmIx (N : List Str) (sc : Scope) (cellOk : Bool) : Expr → Option Nat
  | .Name x _ => match sc.names.lookup x with
    | some .local => ixOf N x
    | some .cell => if cellOk then ixOf N x else none
    | _ => none
  | _ => none
def cNms (f : Expr → Option Nat) : List Expr → Option (List Nat)
  | [] => some []
  | e :: r => match f e, cNms f r with
    | some i, some is => some (i :: is)
    | _, _ => none
/-- a target of names: sc0 the block's own scope -/
def cTg (N : List Str) (sc0 : Scope) (cellOk : Bool) (tg : Expr) : Option Tg := match tg with
  | .Name _ _ => (nmIx N sc0 cellOk tg).map .nm
  | .Tuple es _ _ => (cNms (nmIx N sc0 cellOk) es).map .tp
  | _ => none
def tgNames : Expr → List Str
  | .Name x _ => [x]
  | .Tuple es _ _ => es.filterMap fun | .Name x _ => some x | _ => none
  | _ => []
def ownOf (N : List Str) (xs : List Str) : List (Str × Nat) := xs.filterMap fun x => (ixOf N x).map fun i => (x, i)
def tupB : Expr → Bool | .Tuple .. => true | _ => false
def cI (f : Expr → Option E) (sc : Scope) (tg it : Expr) : Option I := match it with
  | .Call (.Name x _) args [] _ =>
    if glB sc x then
      (if x = "range" then (match args with
        | [a] => if nsB a then (f a).map .rng1 else none
        | [a, b] => if nsB a && nsB b then (match f a, f b with | some m, some n => some (.rng2 m n) | _, _ => none) else none
        | _ => none)
      else if x = "enumerate" then (match args with
        | [a] => if nsB a && tupB tg then (f a).map .enum else none
        | _ => none)
      else if x = "zip" then (match args with
        | [a, b] => if nsB a && nsB b && tupB tg then (match f a, f b with | some m, some n => some (.zip m n) | _, _ => none) else none
        | _ => none)
      else if x = "reversed" then none
      else (f it).map .seq)
    else (f it).map .seq
  | .Call (.Attribute o m apos) [] [] cpos => if m = "items" then (if tupB tg && !callB o && (apos.endLine == cpos.line) then (f o).map .items else none) else (if m = "keys" || m = "values" then none else (f it).map .seq)
  | .GeneratorExp .. => none
  | e => if setB e then none else (f it).map .seq
/-- len({..}) -/
def lenSC : Expr → List Expr → Option (Expr × List Comprehension × Scope)
  | .Name x _, [.SetComp elt gens scope _] => if x = "len" then some (elt, gens, scope) else none
  | _, _ => none
theorem lenSC_eq {f : Expr} {args : List Expr} {elt : Expr} {gens : List Comprehension} {scope : Scope} (h : lenSC f args = some (elt, gens, scope)) : ∃ p p2, f = .Name "len" p ∧ args = [.SetComp elt gens scope p2] := by
  unfold lenSC at h
  split at h
  · split at h
    · rename_i hx
      cases h
      exact ⟨_, _, by rw [hx], rfl⟩
    · cases h
  · cases h
/-- len(set(..)) -/
def setLC : Expr → List Expr → List Keyword → Option Expr
  | .Name x _, [.Call (.Name y _) [a] [] _], [] => if x = "len" ∧ y = "set" then some a else none
  | _, _, _ => none
theorem setLC_eq {f : Expr} {args : List Expr} {kws : List Keyword} {a : Expr} (h : setLC f args kws = some a) : ∃ p p2 p3, f = .Name "len" p ∧ args = [.Call (.Name "set" p2) [a] [] p3] ∧ kws = [] := by
  unfold setLC at h
  split at h
  · split at h
    · rename_i hx
      cases h
      exact ⟨_, _, _, by rw [hx.1], by rw [hx.2], rfl⟩
    · cases h
  · cases h
/-- list(enumerate(..)) -/
def enlC : Expr → List Expr → List Keyword → Option Expr
  | .Name x _, [.Call (.Name y _) [a] [] _], [] => if x = "list" ∧ y = "enumerate" then some a else none
  | _, _, _ => none
theorem enlC_eq {f : Expr} {args : List Expr} {kws : List Keyword} {a : Expr} (h : enlC f args kws = some a) : ∃ p p2 p3, f = .Name "list" p ∧ args = [.Call (.Name "enumerate" p2) [a] [] p3] ∧ kws = [] := by
  unfold enlC at h
  split at h
  · split at h
    · rename_i hx
      cases h
      exact ⟨_, _, _, by rw [hx.1], by rw [hx.2], rfl⟩
    · cases h
  · cases h
/-- list(range(..)) -/
def rglC : Expr → List Expr → List Keyword → Option Expr
  | .Name x _, [.Call (.Name y _) [a] [] _], [] => if x = "list" ∧ y = "range" then some a else none
  | _, _, _ => none
theorem rglC_eq {f : Expr} {args : List Expr} {kws : List Keyword} {a : Expr} (h : rglC f args kws = some a) : ∃ p p2 p3, f = .Name "list" p ∧ args = [.Call (.Name "range" p2) [a] [] p3] ∧ kws = [] := by
  unfold rglC at h
  split at h
  · split at h
    · rename_i hx
      cases h
      exact ⟨_, _, _, by rw [hx.1], by rw [hx.2], rfl⟩
    · cases h
  · cases h
/-- sorted(.., key=lambda ..) -/
def srtK : Expr → List Expr → List Keyword → Option (Expr × Arguments × Expr × Scope)
  | .Name x _, [a], [⟨some y, .Lambda params body scope _, _⟩] => if x = "sorted" ∧ y = "key" then some (a, params, body, scope) else none
  | _, _, _ => none
theorem srtK_eq {f : Expr} {args : List Expr} {kws : List Keyword} {a : Expr} {params : Arguments} {body : Expr} {scope : Scope} (h : srtK f args kws = some (a, params, body, scope)) : ∃ p lp kp, f = .Name "sorted" p ∧ args = [a] ∧ kws = [⟨some "key", .Lambda params body scope lp, kp⟩] := by
  unfold srtK at h
  split at h
  · split at h
    · rename_i hx
      cases h
      exact ⟨_, _, _, by rw [hx.1], rfl, by rw [hx.2]⟩
    · cases h
  · cases h
/-- where a text stands: in a def, in a def that makes lambdas, in an except suite -/
inductive Md where
  | no | lam | qt | bz
  deriving DecidableEq
def Md.l : Md → Bool | .lam => true | _ => false
/-- lambdas may be made and handed on: in such a def, in a block of it -/
def Md.z : Md → Bool | .lam => true | .bz => true | _ => false
theorem Md.lz {tp : Md} (h : tp.l = true) : tp.z = true := by cases tp <;> first | rfl | cases h
def Md.c : Md → Bool | .qt => false | _ => true
theorem Md.zc {tp : Md} (h : tp.z = true) : tp.c = true := by cases tp <;> first | rfl | cases h
def quB : Bi → Bool | .dict | .min | .max | .sum | .any | .all | .sorted => false | _ => true
/-- the defs to which lambdas are handed -/
def zNames : List Str := ["_law_told", "_law_all", "_law_try"]
/-- a call to which a lambda may be handed -/
def zB : Expr → Bool | .Call (.Name x _) _ _ _ => decide (x ∈ zNames) | _ => false
/-- in, not in a thing of the module -/
def glN (sc : Scope) : Expr → Option Str
  | .Name x _ => if okName x && glB sc x && !decide (x ∈ clsNames) then some x else none
  | _ => none
theorem glN_eq {sc : Scope} {e : Expr} {x : Str} (h : glN sc e = some x) : ∃ p, e = .Name x p ∧ okName x = true ∧ glB sc x = true := by
  unfold glN at h
  split at h
  · split at h
    · rename_i hc
      simp only [Bool.and_eq_true] at hc
      cases h
      exact ⟨_, rfl, hc.1.1, hc.1.2⟩
    · cases h
  · cases h
def inOp : CmpOp → Option Bool
  | .In => some false
  | .NotIn => some true
  | _ => none
theorem inOp_eq {op : CmpOp} {ng : Bool} (h : inOp op = some ng) : op = if ng = true then .NotIn else .In := by
  cases op <;> cases h <;> rfl
mutual
def cE (N : List Str) : Nat → Md → Scope → Expr → Option E
  | 0, _, _, _ => none
  | n + 1, tp, sc, e => match e with
    | .Name x _ => if okName x then (if visB sc x then (ixOf N x).map .var else if glB sc x then (if x ∈ clsNames then some (.bltn x) else some (.glob x)) else none) else none
    | .Constant c _ _ => (match c with | .int i => some (.int i) | .str z => some (.str z) | .bool b => some (.bl b) | .none => some .non | _ => none)
    | .BinOp a op b _ => (match cE N n tp sc a, cE N n tp sc b with | some x, some y => some (.bin op x y) | _, _ => none)
    | .UnaryOp op a _ => (match op with | .USub => (cE N n tp sc a).map .neg | .Not => (cE N n tp sc a).map .nt | _ => none)
    | .BoolOp op vs p => (match vs with
      | [] => none
      | [a] => cE N n tp sc a
      | a :: b :: r => (match cE N n tp sc a, cE N n tp sc (.BoolOp op (b :: r) p) with
        | some x, some y => some (match op with | .And => .and2 x y | .Or => .or2 x y)
        | _, _ => none))
    | .Compare a ops cs _ => (match ops, cs with
      | [op], [b] => if behindInMarks op b then none else (match inOp op, glN sc b with
        | some ng, some x => (cE N n tp sc a).map (.inG ng · x)
        | _, _ => (match cE N n tp sc a, cE N n tp sc b with | some x, some y => some (.cmp op x y) | _, _ => none))
      | [o1, o2], [b, c] => if setB b || setB c then none else (match cE N n tp sc a, cE N n tp sc b, cE N n tp sc c with | some x, some y, some z => some (.chain o1 o2 x y z) | _, _, _ => none)
      | _, _ => none)
    | .IfExp t a b _ => (match cT N n tp sc t, cE N n tp sc a, cE N n tp sc b with | some x, some y, some z => some (.ife x y z) | _, _, _ => none)
    | .Attribute a f _ => if callB a then none else (cE N n tp sc a).map (if tp.c then (.fld · f) else (.fldX · f))
    | .Subscript a i _ => (match i with
      | .Slice lo hi none _ => (match cE N n tp sc a, cO (cE N n tp sc) lo, cO (cE N n tp sc) hi with | some x, some l, some h => some (.cut x l h) | _, _, _ => none)
      | .Slice none none (some (.UnaryOp .USub (.Constant (.int 1) _ _) _)) _ => (cE N n tp sc a).map .rev
      | _ => if slB i then none else (match glN sc a with
        | some x => (cE N n tp sc i).map (.subG x)
        | none => (match cE N n tp sc a, cE N n tp sc i with | some x, some y => some (.sub x y) | _, _ => none)))
    | .Tuple es _ _ => (match es with
      | [a, .Starred b _] => if nsB a then (match cE N n tp sc a, cE N n tp sc b with | some x, some y => some (.tupS x y) | _, _ => none) else none
      | _ => (cEs (cE N n tp sc) es).map .tup)
    | .List es _ => (match es with
      | [.Starred a _, b] => if nsB b then (match cE N n tp sc a, cE N n tp sc b with | some x, some y => some (.lstS x y) | _, _ => none) else none
      | _ => (cEs (cE N n tp sc) es).map .lst)
    | .Dict ks vs _ => if ks.isEmpty && vs.isEmpty then some .dct0 else if ks.isEmpty || !decide (ks.length = vs.length) || !decide (ks.length ≤ 15) then none else (cPs (cE N n tp sc) ks vs).map .dct
    | .Call f args kws pos => (match srtK f args kws with
     | some (a, params, body, scope) => if tp.l && tp.c && nsB a && glB sc "sorted" then (match lpar1 params with
        | some z => if lamB1 N sc scope z then (match ixOf N z, cE N n tp sc a, cE N n .no scope body with | some i, some x, some b => some (.srt x i b) | _, _, _ => none) else none
        | none => none) else none
     | none => (match lenSC f args with
     | some (elt, gens, scope) => (match kws, gens with
      | [], [⟨tg, iter, ifs, asy⟩] =>
        if decide (asy = 0) && blkC N sc scope (ownOf N (tgNames tg)) && !setB iter && tp.c && glB sc "len" then
          (match cI (cE N n tp sc) sc tg iter, cTg N scope true tg, (match ifs with | [] => some T.yes | [c] => cT N n .no (relS scope sc) c | _ => none), cE N n .no (relS scope sc) elt with
            | some it, some g, some tt, some x => some (.lenS x g it tt ((ownOf N (tgNames tg)).map (·.2)))
            | _, _, _, _ => none) else none
      | _, _ => none)
     | none => (match setLC f args kws with
     | some a => if nsB a && tp.c && glB sc "len" && glB sc "set" then (cE N n tp sc a).map .lenL else none
     | none => (match enlC f args kws with
     | some a => if nsB a && tp.c && glB sc "list" && glB sc "enumerate" then (cE N n tp sc a).map .enumL else none
     | none => (match rglC f args kws with
     | some a => if nsB a && tp.c && glB sc "list" && glB sc "range" then (cE N n tp sc a).map .rngL else none
     | none => (match f, kws with
      | .Name x _, [] => if okName x then (if visB sc x then (if args.isEmpty && tp.c then (ixOf N x).map .callL else none) else if glB sc x then (match cEs (cE N n tp sc) args with
          | some es => (match biOf x with
            | some b => if args.isEmpty then none else if tp.c || quB b then some (.callB b es) else none
            | none => if tp.z && decide (x ∈ zNames) then (if args.isEmpty then none else some (.callZ x es)) else if tp.c then some (.call x es) else none)
          | none => none) else none) else none
      | .Attribute o m apos, [] => if callB o || !(apos.endLine == pos.line) || !decide (args.length < 30) then none else (match cE N n tp sc o, cEs (cE N n tp sc) args with
          | some a, some es => some (.meth a m (mtsOf m) es)
          | _, _ => none)
      | .Subscript sa si sp, [] => if args.isEmpty && tp.l then (cE N n tp sc (.Subscript sa si sp)).map .callV else none
      | _, _ => none))))))
    | .DictComp kx vx gens scope _ => (match gens with
      | [⟨tg, iter, ifs, asy⟩] =>
        if decide (asy = 0) && blkC N sc scope (ownOf N (tgNames tg)) && !setB iter && tp.c then
          (match cI (cE N n tp sc) sc tg iter, cTg N scope true tg, (match ifs with | [] => some T.yes | [c] => cT N n .no (relS scope sc) c | _ => none), cE N n .no (relS scope sc) kx, cE N n .no (relS scope sc) vx with
            | some it, some g, some tt, some x, some y => some (.dcomp x y g it tt ((ownOf N (tgNames tg)).map (·.2)))
            | _, _, _, _, _ => none) else none
      | _ => none)
    | .Lambda params body scope _ => if tp.z then (match lparB params with
      | some l => if lamB N sc scope l then (cE N n .no scope body).map .lam else none
      | none => none) else none
    | .ListComp elt gens scope _ => (match gens with
      | [⟨tg, iter, ifs, asy⟩] =>
        if tp.l && zB elt then (if decide (asy = 0) && blkC N sc scope (ownOf N (tgNames tg)) && !setB iter && tp.c then
          (match cI (cE N n tp sc) sc tg iter, cTg N scope true tg, (match ifs with | [] => some T.yes | [c] => cT N n .no (relS scope sc) c | _ => none), cE N n .bz (relS scope sc) elt with
            | some it, some g, some tt, some x => some (.compL x g it tt ((ownOf N (tgNames tg)).map (·.2)))
            | _, _, _, _ => none) else none) else
        if decide (asy = 0) && blkC N sc scope (ownOf N (tgNames tg)) && !setB iter && tp.c then
          (match cI (cE N n tp sc) sc tg iter, cTg N scope true tg, (match ifs with | [] => some T.yes | [c] => cT N n .no (relS scope sc) c | _ => none), cE N n .no (relS scope sc) elt with
            | some it, some g, some tt, some x => some (.comp x g it tt ((ownOf N (tgNames tg)).map (·.2)))
            | _, _, _, _ => none) else none
      | _ => none)
    | _ => none
def cT (N : List Str) : Nat → Md → Scope → Expr → Option T
  | 0, _, _, _ => none
  | n + 1, tp, sc, e => match e with
    | .UnaryOp .Not a _ => (cT N n tp sc a).map .nt
    | .BoolOp op vs p => (match vs with
      | [] => none
      | [a] => cT N n tp sc a
      | a :: b :: r => (match cT N n tp sc a, cT N n tp sc (.BoolOp op (b :: r) p) with
        | some x, some y => some (match op with | .And => .and2 x y | .Or => .or2 x y)
        | _, _ => none))
    | .Compare a ops cs _ => (match ops, cs with
      | [op], [b] => if behindInMarks op b then none else (match inOp op, glN sc b with
        | some ng, some x => (cE N n tp sc a).map fun m => .cmp (.inG ng m x)
        | _, _ => (match cE N n tp sc a, cE N n tp sc b with | some x, some y => some (.cmp (.cmp op x y)) | _, _ => none))
      | [o1, o2], [b, c] => if setB b || setB c then none else (match cE N n tp sc a, cE N n tp sc b, cE N n tp sc c with | some x, some y, some z => some (.cmp (.chain o1 o2 x y z)) | _, _, _ => none)
      | _, _ => none)
    | .IfExp .. => none
    | _ => (cE N n tp sc e).map .val
end
/-- the built-in names that a program must have left alone -/
theorem biName_mem (b : Bi) : biName b ∈ bltNames := by cases b <;> decide +kernel
def rx (X : Cx) (ta : List (Addr × Str)) (mm : MT) (xc : XC) : Rx := ⟨rtOf X, ta, mm, xc⟩
/-- the lambdas that X's frame made -/
def Mof (X : Cx) : MT := fun f fz φ => ∀ (σ : L2.St) (cz : Hp), CzOk X σ cz → ∀ j, LamOk (rtOf X) (j + 1) f (knows cz fz) (φ j σ cz)
/-- at each state there are cells with which the lambdas of mm may be called -/
def CzFor (X : Cx) (mm : MT) : Prop := ∀ (pins : List (Addr × Obj)) (σ : L2.St) (H : Hp) (s : Shared), Inv X pins σ H s → ∃ cz : Hp, CzAt X H s cz ∧ ∀ f fz φ, mm f fz φ → ∀ j, LamOk (rtOf X) (j + 1) f (knows cz fz) (φ j σ cz)
theorem czFor_fn {X : Cx} (hfn : ∀ x, X.fn x = true) : CzFor X (Mof X) := fun pins σ H s I => ⟨czOf X s, czAt_of (cellsOff_fn hfn) I, fun f fz φ h j => h σ (czOf X s) (czOk I) j⟩
/-- what a block may call: its own lambdas, and those that the def made ahead of it -/
def blkM (X : Cx) (σ : L2.St) (B : Cx) : MT := fun f fz φ' => Mof B f fz φ' ∨ ∃ φ, Mof X f fz φ ∧ φ' = fun j _ cz => φ j σ cz
open Classical in
noncomputable def czU (X B : Cx) (s : Shared) : Hp := fun a => if (∃ x, B.env.cells.lookup x = some a) ∨ (∃ x, X.env.cells.lookup x = some a) then (s.heap.get? a).map fun o => HO.frz o (.own 0) else none
theorem czU_some {X B : Cx} {s : Shared} {a : Addr} {o : HO} (e : czU X B s a = some o) : ((∃ x, B.env.cells.lookup x = some a) ∨ (∃ x, X.env.cells.lookup x = some a)) ∧ ∃ oc, s.heap.get? a = some oc ∧ o = .frz oc (.own 0) := by
  unfold czU at e
  split at e
  · rename_i hx
    obtain ⟨oc, h1, h2⟩ := Option.map_eq_some_iff.mp e
    exact ⟨hx, oc, h1, h2.symm⟩
  · cases e
theorem czU_at {X B : Cx} {s : Shared} {c : Addr} {oc : Obj} (h : (∃ x, B.env.cells.lookup x = some c) ∨ (∃ x, X.env.cells.lookup x = some c)) (e : s.heap.get? c = some oc) : czU X B s c = some (.frz oc (.own 0)) := by
  unfold czU
  rw [if_pos h, e] <;> rfl
theorem czFor_blk {X : Cx} {pins : List (Addr × Obj)} {σ : L2.St} {H : Hp} {s : Shared} {scope : Scope} {own : List (Str × Nat)} {fp : List Addr} (hfn : ∀ x, X.fn x = true) (I : Inv X pins σ H s) (ok : BlkOk X.N X.env.scope scope own) (hfp : ∀ b ∈ fp, FpOk X pins H b) :
    CzFor (bCx X s H scope fp) (blkM X σ (bCx X s H scope fp)) := fun pins' σ' H' s' J => by
  have hoff := cellsOff_blk (H0 := H) (fp := fp) (cellsOff_fn hfn) I ok
  -- the def's own cells are as they were
  have kept : ∀ x c, X.env.cells.lookup x = some c → ∃ oc, s.heap.get? c = some oc ∧ (∃ v, oc.data = .cell v) ∧ s'.heap.get? c = some oc ∧ H' c = none ∧ X.base.get? c = none ∧ c ∉ frs X.stack := fun x c hc => by
    obtain ⟨v, oc, e, d⟩ := I.cell x c hc
    have off := cellsOff_fn hfn pins σ H s I x c hc
    have nex : c ∉ fp := fun hm => (hfp c hm).2.2.2.2.1 x c hc rfl
    exact ⟨oc, e, ⟨v, d⟩, J.base.keep c oc e (I.freeC x c hc) off.2 nex, J.base.free c oc e (I.freeC x c hc) nex, off.1, off.2⟩
  have CB := czOk J
  have CX0 := czOk I
  refine ⟨czU X (bCx X s H scope fp) s', ⟨fun a o e => ?_, fun a o e => ?_, fun a o e => ?_, fun a oc u e => ?_⟩, fun f fz φ h j => ?_⟩
  · obtain ⟨hx, oc, h1, rfl⟩ := czU_some e
    rcases hx with ⟨x, hx⟩ | ⟨x, hx⟩
    · obtain ⟨v, o2, e2, d⟩ := J.cell x a hx
      rw [h1] at e2
      cases e2
      exact ⟨oc, rfl, v, d⟩
    · obtain ⟨o2, _, d, e2, _⟩ := kept x a hx
      rw [h1] at e2
      cases e2
      exact ⟨oc, rfl, d⟩
  · obtain ⟨hx, _⟩ := czU_some e
    rcases hx with ⟨x, hx⟩ | ⟨x, hx⟩
    · exact J.freeC x a hx
    · obtain ⟨_, _, _, _, n, _⟩ := kept x a hx
      exact n
  · obtain ⟨hx, _⟩ := czU_some e
    rcases hx with ⟨x, hx⟩ | ⟨x, hx⟩
    · exact hoff _ _ _ _ J x a hx
    · obtain ⟨_, _, _, _, _, n⟩ := kept x a hx
      exact n
  · obtain ⟨_, oc2, h1, h2⟩ := czU_some e
    cases h2
    exact h1
  · have kz : CzK (czU X (bCx X s H scope fp) s') := fun a o e => by
      obtain ⟨hx, oc, h1, rfl⟩ := czU_some e
      rcases hx with ⟨x, hx⟩ | ⟨x, hx⟩
      · obtain ⟨v, o2, e2, d⟩ := J.cell x a hx
        rw [h1] at e2
        cases e2
        exact ⟨oc, rfl, v, d⟩
      · obtain ⟨o2, _, d, e2, _⟩ := kept x a hx
        rw [h1] at e2
        cases e2
        exact ⟨oc, rfl, d⟩
    rcases h with h | ⟨φ0, h, rfl⟩
    · refine h σ' _ ⟨kz, fun x c hc => ?_, CB.len, CB.inj, CB.has⟩ j
      obtain ⟨oc, q1, q2⟩ := CB.cell x c hc
      obtain ⟨_, oc2, h1, h2⟩ := czOf_some q1
      cases h2
      exact ⟨oc, czU_at (.inl ⟨x, hc⟩) h1, q2⟩
    · refine h σ _ ⟨kz, fun x c hc => ?_, CX0.len, CX0.inj, CX0.has⟩ j
      obtain ⟨oc, q1, q2⟩ := CX0.cell x c hc
      obtain ⟨_, oc2, h1, h2⟩ := czOf_some q1
      cases h2
      obtain ⟨o3, g1, _, g2, _⟩ := kept x c hc
      rw [h1] at g1
      cases g1
      exact ⟨oc, czU_at (.inr ⟨x, hc⟩) g2, q2⟩
structure Gd (ta : List (Addr × Str)) (mm : MT) (xc : XC) (tp : Md) (k : Nat) (sc : Scope) (N : List Str) (W : WX) (X : Cx) : Prop where
  N : X.N = N
  nd : X.N.Nodup
  sc : X.env.scope = sc
  room : tp.c = true → Room k X.A
  u65 : X.A.units + 65 < cLine
  calm : tp.c = true → X.calm = true
  tk : Takes X W
  own : PassesOwn (model X.prog X.w) X.A X.env X.xe
  blt : ∀ x ∈ bltNames, X.mg x = none
  exn : tp.c = true → xc = none
  exq : tp.c = false → xc ≠ none
  exi : tp.c = false → CallR X (.builtin "isinstance") (rIsH X.K xc) ∧ FldX X xc
  lam : tp.z = true → CzFor X mm ∧ (tp.l = true → (∀ x, X.fn x = true) ∧ mm = Mof X) ∧ (∀ f fz φ, Mof X f fz φ → mm f fz φ) ∧ ∃ c P, LamX.TabB X.base X.mg c P ∧ X.env.code = .ref c ∧ (P, X.env.qual ++ "<lambda>") ∈ ta ∧ ∀ p ∈ ta, p.1 = P → p.2 = X.env.qual ++ "<lambda>"
theorem Gd.ex {ta : List (Addr × Str)} {mm : MT} {xc : XC} {tp : Md} {k : Nat} {sc : Scope} {N : List Str} {W : WX} {X : Cx} (g : Gd ta mm xc tp k sc N W X) : CallR X (.builtin "isinstance") (rIsH X.K xc) := by
  cases h : tp.c with
  | true =>
    obtain rfl := g.exn h
    intro pins s σ H xs us Q I r q
    obtain ⟨a, C, d, z, _⟩ := q
    cases z
  | false => exact (g.exi h).1
theorem Gd.c_of {ta : List (Addr × Str)} {mm : MT} {xc : XC} {tp : Md} {k : Nat} {sc : Scope} {N : List Str} {W : WX} {X : Cx} (g : Gd ta mm xc tp k sc N W X) (h : xc = none) : tp.c = true := by
  cases q : tp.c with
  | true => rfl
  | false => exact absurd h (g.exq q)
section
variable {X : Cx}
theorem PEi {e : Expr} {t t' : TE} (h : PE X e t) (i : ∀ σ H Q, t' σ H Q → t σ H Q) : PE X e t' := ⟨fun pins s σ H Q I q => h.run pins s σ H Q I (i σ H Q q)⟩
theorem PSi {e : Stmt} {t t' : TS} (h : PS X e t) (i : ∀ D σ H, t' D σ H → t D σ H) : PS X e t' := ⟨fun pins s σ H D I q => h.run pins s σ H D I (i D σ H q)⟩
theorem ORn {f : Value → Value → Sem Value} : OpR X f (fun _ _ _ _ => False) := fun _ _ _ _ _ _ _ _ _ _ _ _ q => q.elim
theorem o_bin (op : Operator) : OpR X (binaryOp op) (rBin X.K op) := by
  cases op
  case Add => exact op_add.or (op_add_str.or (op_cat.or op_catA))
  case Sub => exact op_sub
  case Mult => exact op_mul.or (op_mulW.or op_rep)
  case FloorDiv => exact op_fdivW
  case Mod => exact op_mod
  case Pow => exact op_pow
  all_goals exact ORn
theorem o_din (hu : X.A.units + 65 < cLine) : OpR X (compareOp .In) (rDIn false) := by
  intro pins s σ H x y v u Q I rx ry q
  obtain ⟨a, o, rfl, g, q⟩ := q
  obtain rfl : u = Value.ref a := ry
  exact d_in (by omega) I g rx fun s' I' => ⟨.bl o.isSome, H, I', rfl, q⟩
theorem o_dnin (hu : X.A.units + 65 < cLine) : OpR X (compareOp .NotIn) (rDIn true) := by
  intro pins s σ H x y v u Q I rx ry q
  obtain ⟨a, o, rfl, g, q⟩ := q
  obtain rfl : u = Value.ref a := ry
  exact d_notIn (by omega) I g rx fun s' I' => ⟨.bl (!o.isSome), H, I', rfl, q⟩
theorem o_cmp (op : CmpOp) (hu : X.A.units + 65 < cLine) : OpR X (compareOp op) (rCmp X.K op) := by
  cases op
  case Eq => exact op_eq.or ((op_eqD (by omega)).or ((op_eqV (by omega)).or (op_eqN (by omega))))
  case NotEq => exact op_ne.or ((op_neD (by omega)).or (op_neN (by omega)))
  case Lt => exact op_lt
  case LtE => exact op_le
  case Gt => exact op_gt
  case GtE => exact op_ge
  case Is => exact op_isN
  case IsNot => exact op_notN
  case In => exact op_in_seq.or ((op_inD hu).or ((o_din hu).or op_in_sign))
  case NotIn => exact op_notIn_seq.or ((op_notInD hu).or ((o_dnin hu).or op_notIn_sign))
theorem o_inK (ng : Bool) : OpR X (compareOp (if ng = true then .NotIn else .In)) (rInK X.K X.w ng) := by
  intro pins s σ H x y v u Q I rx ry q
  obtain ⟨p, z, b, rfl, rfl, ⟨es, n, r, hl, hk, low, e, rfl⟩, q⟩ := q
  obtain rfl : u = Value.ref p := ry
  obtain ⟨t, rfl⟩ := rx
  have hm := PySem.W.mapOf_K (prog := X.prog) (w := X.w) I.kIn hl hk
  have fk := PySem.W.find_K hl e
  cases ng with
  | false =>
    refine wpAny_in_of (strKind_is X.prog X.w z t) low hm ?_
    rw [fk]
    exact ⟨.bl r.isSome, H, I.tok _, rfl, q⟩
  | true =>
    refine wpAny_notIn_of (strKind_is X.prog X.w z t) low hm ?_
    rw [fk]
    exact ⟨.bl (!r.isSome), H, I.tok _, rfl, q⟩
theorem x_dict (hu : X.A.units + 65 < cLine) : IxR X rIxD := by
  intro value slice pins s σ H x y v u Q I rx ry h hs
  obtain ⟨a, z, rfl, g, q⟩ := h
  obtain rfl : v = Value.ref a := rx
  exact tail_any (dict_typeIs I g) PySem.F.slot_dict_getitem.lookup (d_getItem (by omega) I g ry fun w' s' I' r' => ⟨z, H, I', r', q⟩) hs
theorem x_sub (hu : X.A.units + 65 < cLine) : IxR X (rSubs X.K) := ix_seq.or (x_dict hu)
theorem x_cut : SlR X (rCut X.K) := sl_list.or (sl_tupA.or sl_str)
def biV : Bi → Value
  | .len => .builtin "len" | .isinstance => .builtin "isinstance" | .int => .type "int" | .bool => .type "bool" | .str => .type "str" | .list => .type "list" | .tuple => .type "tuple"
  | .sorted => .builtin "sorted" | .min => .builtin "min" | .max => .builtin "max" | .abs => .builtin "abs" | .sum => .builtin "sum" | .any => .builtin "any" | .all => .builtin "all" | .dict => .type "dict"
theorem call_lenB : CallR X (.builtin "len") (fun xs H Q => ∃ x n, xs = [x] ∧ LenV X.K x H n ∧ (n ≤ sizeLine → Q (.int n) H)) := by
  intro pins s σ H xs us Q I r h
  obtain ⟨x, n, rfl, e, q⟩ := h
  have hz : n ≤ sizeLine := by
    cases x with
    | str y => exact e.2 ▸ e.1
    | byt y => exact e.2 ▸ e.1
    | ref a =>
      rcases e with ⟨ys, h, rfl⟩ | ⟨ys, h, rfl⟩
      · obtain ⟨_, _, _, hz⟩ := I.list h
        exact hz
      · obtain ⟨_, _, _, hz⟩ := I.tuple h
        exact hz
    | _ => exact absurd e id
  exact call_len pins s σ H _ us Q I r ⟨x, n, rfl, e, q hz⟩
theorem c_bi {xc : XC} (b : Bi) (hu : X.A.units + 65 < cLine) (hc : quB b = true ∨ X.calm = true) (hx : CallR X (.builtin "isinstance") (rIsH X.K xc)) : CallR X (biV b) (rBi X.K xc b) := by
  cases b
  case len => exact call_lenB.or call_lenD
  case isinstance => exact (call_isi.or call_isiT).or hx
  case int => exact call_int1.or call_int_str
  case bool => exact call_bool1
  case str => exact call_str_int.or SkE.call_str_str
  case list => exact call_list_of
  case tuple => exact call_tuple_of
  case sorted => exact cr_sorted.or ((call_sortK (hc.resolve_left (fun z => by cases z))).or (call_sortD hu))
  case min => exact call_min2 (hc.resolve_left (fun z => by cases z))
  case max => exact call_max2 (hc.resolve_left (fun z => by cases z))
  case abs => exact call_abs
  case sum => exact cr_sum (hc.resolve_left (fun z => by cases z))
  case any => exact cr_any (hc.resolve_left (fun z => by cases z))
  case all => exact cr_all (hc.resolve_left (fun z => by cases z))
  case dict => exact call_dictP (hc.resolve_left (fun z => by cases z))
theorem b_bi (b : Bi) : bootBuiltins (biName b) = some (biV b) ∧ ((∃ i, biV b = .builtin i) ∨ ∃ i, biV b = .type i) ∧ biName b ≠ "__name__" ∧ (biName b == ("__debug__" : Str)) = false := by
  cases b <;> refine ⟨by decide +kernel, ?_, by decide +kernel, by decide +kernel⟩ <;> first | exact .inl ⟨_, rfl⟩ | exact .inr ⟨_, rfl⟩
end
section
variable {X : Cx}
theorem m_dget1 (hu : X.A.units + 65 < cLine) : MtR X "dict.get" (rMt X.K .dget1) := by
  intro pins s σ H x xs v us Q I rx rs q
  obtain ⟨a, y, o, rfl, rfl, g, q⟩ := q
  obtain rfl : v = Value.ref a := rx
  obtain ⟨u, rfl, ru⟩ := Vals.one rs
  exact d_get1 (by omega) I g ru fun w' s' I' r' => ⟨_, H, I', r', q⟩
theorem m_dget2 (hu : X.A.units + 65 < cLine) : MtR X "dict.get" (rMt X.K .dget2) := by
  intro pins s σ H x xs v us Q I rx rs q
  obtain ⟨a, y, d, o, rfl, rfl, g, q⟩ := q
  obtain rfl : v = Value.ref a := rx
  obtain ⟨u, u2, rfl, ru, ru2⟩ := Vals.two rs
  exact d_get2 (by omega) I g ru ru2 fun w' s' I' r' => ⟨_, H, I', r', q⟩
theorem m_dpop1 : MtR X "dict.pop" (rMt X.K .dpop1) := by
  intro pins s σ H x xs v us Q I rx rs q
  obtain ⟨a, kvs, k, z, rfl, rfl, e, l, q⟩ := q
  obtain rfl : v = Value.ref a := rx
  obtain ⟨u, rfl, ru⟩ := Vals.one rs
  exact d_pop I e ru l (.inl rfl) fun w' s' I' r' => ⟨_, _, I', r', q⟩
theorem m_dpop2 : MtR X "dict.pop" (rMt X.K .dpop2) := by
  intro pins s σ H x xs v us Q I rx rs q
  obtain ⟨a, kvs, k, d, rfl, rfl, e, q⟩ := q
  obtain rfl : v = Value.ref a := rx
  obtain ⟨u, u2, rfl, ru, ru2⟩ := Vals.two rs
  rcases q with ⟨z, l, q⟩ | ⟨l, q⟩
  · exact d_pop I e ru l (.inr ⟨_, rfl⟩) fun w' s' I' r' => ⟨_, _, I', r', q⟩
  · exact d_popD I e ru l fun s' I' => ⟨_, _, I', ru2, q⟩
/-- what the library knows of a built-in value's method -/
theorem count_eqU {y : V} : ∀ {ys : List V} {its : List Value}, Vals ys its → ys.all flatV = true → its.countP (eqU y) = ys.countP fun z => eqV z y
  | _, _, .nil, _ => rfl
  | z :: _, _, .cons r t, f => by
    obtain ⟨f1, f2⟩ := Bool.and_eq_true_iff.mp f
    rw [List.countP_cons, List.countP_cons, count_eqU t f2, eqU_of r f1] <;> rfl
theorem m_count : MtR X "list.count" (rMt X.K .count) := by
  intro pins s σ H x xs v us Q I rx rxs h
  obtain ⟨a, ys, y, rfl, rfl, hs, fy, fys, q⟩ := h
  cases rx
  cases rxs with
  | cons ry rt =>
    rename_i uy ut
    cases rt
    obtain ⟨its, rv, ⟨⟨cls, dd, data, sl⟩, n, ho, hc, hdn, hd⟩, hlen⟩ := I.list hs
    simp only at hc hd
    subst hc hd
    refine call_meets PySem.F.slot_list_count ⟨_, ho, rfl⟩ PySem.F.entry_list_count (PySem.F.args_list_count_2 _ _)
      (SeqAt.list_countAt a its.toArray n dd sl uy (eqU y)) ⟨ho, fun u' hu' => mem_eqAt ry fy rv fys u' (by simpa using hu'), ?_⟩
    have ec : its.toArray.toList.countP (eqU y) = ys.countP fun z => eqV z y := count_eqU rv fys
    refine ⟨.int (ys.countP fun z => eqV z y : Nat), H, I.tok _, ⟨s.toks, ?_⟩, q⟩
    show Value.int ((its.toArray.toList.countP (eqU y) : Nat) : Int) s.toks = _
    rw [ec]
theorem m_all (hu : X.A.units + 65 < cLine) (t : Mt) : ∃ id : String, PlainAttrs (mtT t) ∧ Slot (mtT t) (mtName t) id ∧ typeOf (.builtin id) = pure (.type "method_descriptor") ∧ MtR X id (rMt X.K t) := by
  cases t
  case append => exact ⟨_, PySem.F.plainAttrs_list, PySem.F.slot_list_append, PySem.F.type_list_append, mt_append⟩
  case pop => exact ⟨_, PySem.F.plainAttrs_list, PySem.F.slot_list_pop, PySem.F.type_list_pop, mt_pop⟩
  case popAt => exact ⟨_, PySem.F.plainAttrs_list, PySem.F.slot_list_pop, PySem.F.type_list_pop, mt_popAt⟩
  case extend => exact ⟨_, PySem.F.plainAttrs_list, PySem.F.slot_list_extend, PySem.F.type_list_extend, mt_extendT⟩
  case clear => exact ⟨_, PySem.F.plainAttrs_list, PySem.F.slot_list_clear, PySem.F.type_list_clear, mt_clear⟩
  case reverse => exact ⟨_, PySem.F.plainAttrs_list, PySem.F.slot_list_reverse, PySem.F.type_list_reverse, mt_reverse⟩
  case index => exact ⟨_, PySem.F.plainAttrs_list, PySem.F.slot_list_index, PySem.F.type_list_index, mt_index.or (mt_indexD hu)⟩
  case count => exact ⟨_, PySem.F.plainAttrs_list, PySem.F.slot_list_count, PySem.F.type_list_count, m_count⟩
  case insert => exact ⟨_, PySem.F.plainAttrs_list, PySem.F.slot_list_insert, PySem.F.type_list_insert, mt_insert⟩
  case dget1 => exact ⟨_, PySem.F.plainAttrs_dict, PySem.F.slot_dict_get, PySem.F.type_dict_get, m_dget1 hu⟩
  case dget2 => exact ⟨_, PySem.F.plainAttrs_dict, PySem.F.slot_dict_get, PySem.F.type_dict_get, m_dget2 hu⟩
  case dpop1 => exact ⟨_, PySem.F.plainAttrs_dict, PySem.F.slot_dict_pop, PySem.F.type_dict_pop, m_dpop1⟩
  case dpop2 => exact ⟨_, PySem.F.plainAttrs_dict, PySem.F.slot_dict_pop, PySem.F.type_dict_pop, m_dpop2⟩
  case split => exact ⟨_, PySem.F.plainAttrs_str, PySem.F.slot_str_split, PySem.F.type_str_split, mt_split⟩
  case join => exact ⟨_, PySem.F.plainAttrs_str, PySem.F.slot_str_join, PySem.F.type_str_join, mt_join⟩
  case isdigit => exact ⟨_, PySem.F.plainAttrs_str, PySem.F.slot_str_isdigit, PySem.F.type_str_isdigit, mt_isdigit⟩
  case remove => exact ⟨_, PySem.F.plainAttrs_list, PySem.F.slot_list_remove, PySem.F.type_list_remove, MtR.or mt_remove (mt_removeD hu)⟩
  case update => exact ⟨_, PySem.F.plainAttrs_dict, PySem.F.slot_dict_update, PySem.F.type_dict_update, m_update⟩
/-- a method's call, whatever the receiver is -/
theorem meth_at {prog : Program} {w : World} {A : Around} {E : Value → Shared → Prop} {s : Shared} {env : Env} {o : Expr} {name : Str} {apos pos : Pos} {args : List Expr} {Q : Value → Shared → Prop}
    (hbase : attributeBase o name env (eval o env) = eval o env) (hfew : ((backTo pos (starEach args env)).all (fun x => !x.1) && (backToKw pos (keywordEach [] env)).all (fun x => x.1.isSome)
      && decide (args.length + ([] : List Keyword).length + (if ([] : List Keyword).isEmpty then 0 else 1) < 30)) = true) (hline : (apos.endLine == pos.line) = true)
    (h : wpAny (model prog w) A (eval o env) (fun ov s₁ => ∀ pl, wpAny (model prog w) A (getMethod ov name pl) (fun fx s2 => wpAny (model prog w) A (callWith pos fx.1 fx.2 (backTo pos (starEach args env)) []) Q E s2) E s₁) E s) :
    wpAny (model prog w) A (eval (.Call (.Attribute o name apos) args [] pos) env) Q E s := by
  rw [arm_eval_Call, hbase]
  refine wpAny_bind (wpAny_mono h (fun ov s₁ h₁ => ?_) fun _ _ e => e)
  refine wpAny_bind (wpAny_standAt ?_)
  have hform : methodCallForm (args.length + ([] : List Keyword).length) (backTo pos (starEach args env)) (backToKw pos (keywordEach [] env)) = true := hfew
  have hpos : methodCallPos true o env apos pos = pure pos := by unfold methodCallPos; simp [hline]
  unfold methodCall
  rw [hform]
  refine wpAny_bind (wpAny_holding (wpAny_mono (h₁ _) (fun fx s2 h2 => ?_) fun _ _ e => e))
  exact wpAny_bind (wpAny_of_eq hpos h2)
end
section
variable {X : Cx} {ta : List (Addr × Str)} {mm : MT} {xc : XC} {tp : Md}
theorem Room.u65 {k : Nat} {A : Around} (r : Room k A) : A.units + 65 < cLine := by have := r.un; omega
/-- argument lists -/
theorem pa_of {k : Nat} {W : WX} {f : Expr → Option E} (hf : ∀ e m, f e = some m → PE X e (wE (rx X ta mm xc) k m W)) : ∀ {es : List Expr} {ms : Es}, cEs f es = some ms → PA X es (wEs (rx X ta mm xc) k ms W)
  | [], ms, h => by
    cases h
    exact pa_nil
  | e :: r, ms, h => by
    unfold cEs at h
    split at h
    · rename_i m ms' h1 h2 h3
      cases h
      exact pa_cons (hf _ _ h2) (pa_of hf h3) (starEach_ns h1)
    · cases h
theorem cEs_ns {f : Expr → Option E} {e : Expr} {r : List Expr} {ms : Es} (h : cEs f (e :: r) = some ms) : nsB e = true ∧ ∃ m ms', ms = .cons m ms' ∧ cEs f r = some ms' := by
  unfold cEs at h
  split at h
  · rename_i m ms' h1 h2 h3
    cases h
    exact ⟨h1, m, ms', rfl, h3⟩
  · cases h
theorem star_any {f : Expr → Option E} {env : Env} {pos : Pos} : ∀ {es : List Expr} {ms : Es}, cEs f es = some ms → (backTo pos (starEach es env)).any (·.1) = false
  | [], ms, h => rfl
  | e :: r, ms, h => by
    obtain ⟨h1, m, ms', _, h2⟩ := cEs_ns h
    rw [starEach_ns h1]
    show (false || (backTo pos (starEach r env)).any (·.1)) = false
    rw [star_any h2] <;> rfl
theorem star_all {f : Expr → Option E} {env : Env} {pos : Pos} : ∀ {es : List Expr} {ms : Es}, cEs f es = some ms → (backTo pos (starEach es env)).all (fun x => !x.1) = true
  | [], ms, h => rfl
  | e :: r, ms, h => by
    obtain ⟨h1, m, ms', _, h2⟩ := cEs_ns h
    rw [starEach_ns h1]
    show (!false && (backTo pos (starEach r env)).all (fun x => !x.1)) = true
    rw [star_all h2] <;> rfl
theorem pps_of {k : Nat} {W : WX} {pos : Pos} {f : Expr → Option E} (hf : ∀ e m, f e = some m → PE X e (wE (rx X ta mm xc) k m W)) : ∀ {ks : List (Option Expr)} {vs : List Expr} {ms : Es}, cPs f ks vs = some ms → PPs X pos ks vs (wPs (rx X ta mm xc) k ms W) ∧ ks.all (·.isSome) = true
  | [], [], ms, h => by
    cases h
    exact ⟨pps_nil, rfl⟩
  | some a :: r, b :: q, ms, h => by
    unfold cPs at h
    split at h
    · rename_i m n ms' h1 h2 h3
      cases h
      obtain ⟨p1, p2⟩ := pps_of hf (pos := pos) h3
      exact ⟨pps_cons (hf _ _ h1) (hf _ _ h2) p1, by simpa using p2⟩
    · cases h
  | none :: _, _, _, h => by cases h
  | some _ :: _, [], _, h => by cases h
  | [], _ :: _, _, h => by cases h
theorem po_of {k : Nat} {W : WX} {f : Expr → Option E} (hf : ∀ e m, f e = some m → PE X e (wE (rx X ta mm xc) k m W)) : ∀ {o : Option Expr} {m : O}, cO f o = some m → PO X o (wO (rx X ta mm xc) k m W)
  | none, m, h => by
    cases h
    exact po_none
  | some e, m, h => by
    unfold cO at h
    obtain ⟨x, h1, h2⟩ := Option.map_eq_some_iff.mp h
    cases h2
    exact po_some (hf _ _ h1)
/-- targets of names -/
theorem nmIx_get {N : List Str} {sc : Scope} {c : Bool} {e : Expr} {i : Nat} (h : nmIx N sc c e = some i) : ∃ x p, e = .Name x p ∧ N[i]? = some x ∧ (sc.names.lookup x = some .local ∨ (c = true ∧ sc.names.lookup x = some .cell)) := by
  unfold nmIx at h
  split at h
  · rename_i x p
    split at h
    · exact ⟨x, p, rfl, ixOf_get h, .inl (by assumption)⟩
    · split at h
      · exact ⟨x, p, rfl, ixOf_get h, .inr ⟨by assumption, by assumption⟩⟩
      · cases h
    · cases h
  · cases h
/-- how names of the block's own scope stand in the context -/
def TgOk (X : Cx) (sc0 : Scope) (c : Bool) : Prop := ∀ x, (sc0.names.lookup x = some .local → X.env.scope.names.lookup x = some .local) ∧ (c = true → sc0.names.lookup x = some .cell → X.env.scope.names.lookup x = some .cell ∧ X.fn x = true)
theorem pg_nm {sc0 : Scope} {c : Bool} {e : Expr} {i : Nat} (T : TgOk X sc0 c) (nd : X.N.Nodup) (h : nmIx X.N sc0 c e = some i) : PG X e (gName i) := by
  obtain ⟨x, p, rfl, hN, hl⟩ := nmIx_get h
  rcases hl with hl | ⟨hc, hl⟩
  · exact pg_name nd hN (.inl ((T x).1 hl)) (.inr ((T x).1 hl))
  · exact pg_name nd hN (.inr ((T x).2 hc hl).1) (.inl ((T x).2 hc hl).2)
def gMany : List Nat → TGs
  | [] => gNil
  | i :: is => gCons (gName i) (gMany is)
theorem gMany_ok : ∀ {is : List Nat} {vs : List V} {σ : L2.St} {H : Hp} {Q : L2.St → Hp → Prop}, vs.length = is.length → Q (setMany σ is vs) H → gMany is vs σ H Q
  | [], [], σ, H, Q, _, q => ⟨rfl, q⟩
  | i :: is, v :: vs, σ, H, Q, h, q => ⟨v, vs, rfl, gMany_ok (is := is) (by simpa using h) q⟩
  | [], _ :: _, _, _, _, h, _ => by cases h
  | _ :: _, [], _, _, _, h, _ => by cases h
theorem pgs_nms {sc0 : Scope} {c : Bool} (T : TgOk X sc0 c) (nd : X.N.Nodup) : ∀ {es : List Expr} {is : List Nat}, cNms (nmIx X.N sc0 c) es = some is →
    PGs X es (gMany is) ∧ (assignEach es X.env).length = is.length ∧ (assignEach es X.env).findIdx? (·.1) = none
  | [], is, h => by
    cases h
    exact ⟨pgs_nil, rfl, rfl⟩
  | e :: r, is, h => by
    unfold cNms at h
    split at h
    · rename_i i is' h1 h2
      cases h
      obtain ⟨p1, p2, p3⟩ := pgs_nms T nd h2
      have hn := nmIx_get h1
      obtain ⟨x, p, rfl, _, _⟩ := hn
      refine ⟨pgs_cons (pg_nm T nd h1) p1, ?_, ?_⟩
      · show ((assignEach r X.env).length + 1) = _
        rw [p2] <;> rfl
      · show ((false, _) :: assignEach r X.env).findIdx? (·.1) = none
        rw [List.findIdx?_cons, p3] <;> rfl
    · cases h
theorem pg_unp {sc0 : Scope} {c : Bool} (T : TgOk X sc0 c) (nd : X.N.Nodup) (hc : X.calm = true) {es : List Expr} {is : List Nat} {k : Nat} {pos : Pos} (h : cNms (nmIx X.N sc0 c) es = some is) : PG X (.Tuple es k pos) (rUnp X.K is) := by
  obtain ⟨p1, p2, p3⟩ := pgs_nms T nd h
  refine ⟨fun pins s σ H v u Q I r q => ?_⟩
  obtain ⟨a, xs, rfl, ht, hl, q⟩ := q
  rcases ht with ht | ht
  · exact (pg_tup (n := is.length) hc p1 p2 p3).run pins s σ H _ u Q I r ⟨a, xs, rfl, ht, hl, gMany_ok hl q⟩
  · exact (pg_lst (n := is.length) hc p1 p2 p3).run pins s σ H _ u Q I r ⟨a, xs, rfl, ht, hl, gMany_ok hl q⟩
theorem pg_tg {sc0 : Scope} {c : Bool} (T : TgOk X sc0 c) (nd : X.N.Nodup) (hc : X.calm = true) {tg : Expr} {g : Tg} (h : cTg X.N sc0 c tg = some g) : PG X tg (gTg X.K g) := by
  unfold cTg at h
  split at h
  · obtain ⟨i, h1, h2⟩ := Option.map_eq_some_iff.mp h
    cases h2
    exact pg_nm T nd h1
  · obtain ⟨is, h1, h2⟩ := Option.map_eq_some_iff.mp h
    cases h2
    exact pg_unp T nd hc h1
  · cases h
/-- what a for walks -/
theorem pi_seq {e tg : Expr} {te : TE} (he : PE X e te) : PI X tg e (fun σ H S => te σ H fun x H1 => (∃ a, x = .ref a ∧ (∃ xs, SqL X.K H1 a xs) ∧ S (Itl X.K a) H1) ∨ (∃ a, x = .ref a ∧ (∃ xs, SqT X.K H1 a xs) ∧ S (Itt X.K a) H1) ∨
      (∃ d o kvs, x = .ref d ∧ H1 d = some (.frz o (.dK kvs)) ∧ S (Itk d o kvs) H1) ∨ (∃ z, x = .str z ∧ S (Its z) H1) ∨ (∃ d o kvs, x = .ref d ∧ H1 d = some (.frz o (.dT kvs)) ∧ S (Itkt d o kvs) H1)) := by
  refine ⟨fun pins s σ H R I h => ?_⟩
  refine thn (he.run pins s σ H _ I h) fun v s1 ⟨x, H1, I1, r1, q1⟩ => ?_
  rcases q1 with ⟨a, e, ⟨xs, hq⟩, q⟩ | ⟨a, e, ⟨xs, hq⟩, q⟩ | ⟨d, o, kvs, e, hd, q⟩ | ⟨z, e, q⟩ | ⟨d, o, kvs, e, hd, q⟩
  · subst e
    cases r1
    obtain ⟨its, rv, p, hz⟩ := I1.list hq
    refine wpAny_pyIter_list p.isList ?_
    refine ⟨s1.heap.objs.size, [s1.heap.objs.size], _, _, H1, rfl, I1.kept (t' := s1.toks) fun b o e => Heap.get?_push_of_some _ e, turn_list a _, ⟨_, Heap.get?_push_size _ rfl, rfl, rfl⟩, fun b hb => ?_, q⟩
    have e : b = s1.heap.objs.size := by simpa using hb
    subst e
    exact I1.fpOk (Nat.le_refl _) (I1.hok.fresh (Nat.le_refl _))
  · subst e
    cases r1
    obtain ⟨its, rv, p, hz⟩ := I1.tuple hq
    refine wpAny_pyIter_tuple (show s1.heap.IsTuple a its.toArray from p) ?_
    refine ⟨s1.heap.objs.size, [s1.heap.objs.size], _, _, H1, rfl, I1.kept (t' := s1.toks) fun b o e => Heap.get?_push_of_some _ e, turn_tuple a _, ⟨_, Heap.get?_push_size _ rfl, rfl, rfl⟩, fun b hb => ?_, q⟩
    have e : b = s1.heap.objs.size := by simpa using hb
    subst e
    exact I1.fpOk (Nat.le_refl _) (I1.hok.fresh (Nat.le_refl _))
  · subst e
    obtain rfl : v = Value.ref d := r1
    obtain ⟨hs, hgd, hx, es, ep, vs, hdt, hsz, kv, hm⟩ := I1.frzK hd
    refine iter_keys hs hgd hx hdt (pi_one (tk := s1.toks) I1 _ (turn_keys _ hdt) ⟨_, Heap.get?_push_size _ rfl, rfl, ?_⟩ q)
    rw [hsz] <;> rfl
  · subst e
    obtain ⟨t, rfl⟩ := r1
    cases ha : z.cps.all (· < 128)
    · exact wpAny_pyIter_wide ha (pi_one (tk := s1.toks) I1 _ (turn_str _ z t "str_iterator" (.inr rfl)) ⟨_, Heap.get?_push_size _ rfl, rfl, rfl⟩ q)
    · exact wpAny_pyIter_ascii ha (pi_one (tk := s1.toks) I1 _ (turn_str _ z t "str_ascii_iterator" (.inl rfl)) ⟨_, Heap.get?_push_size _ rfl, rfl, rfl⟩ q)
  · subst e
    obtain rfl : v = Value.ref d := r1
    obtain ⟨hs, hgd, hx, es, ep, hdt, hsz, ent⟩ := I1.frzT hd
    refine iter_keys hs hgd hx hdt (pi_one (tk := s1.toks) I1 _ (turn_keysT _ hdt) ⟨_, Heap.get?_push_size _ rfl, rfl, ?_⟩ q)
    rw [hsz] <;> rfl
theorem PIi {tg e : Expr} {t t' : TI} (h : PI X tg e t) (i : ∀ σ H Q, t' σ H Q → t σ H Q) : PI X tg e t' := ⟨fun pins s σ H Q I q => h.run pins s σ H Q I (i σ H Q q)⟩
end
end Zw
set_option Elab.async false
set_option linter.all false
set_option maxRecDepth 100000
set_option maxHeartbeats 8000000
namespace Zw
open PySem PySem.Spec PyProof.Rows L2
section
variable {X : Cx} {ta : List (Addr × Str)} {mm : MT} {xc : XC} {tp : Md}
theorem clsNames_blt : ∀ x ∈ clsNames, x ∈ bltNames := by decide +kernel
theorem Gd.gl {k : Nat} {sc : Scope} {N : List Str} {W : WX} {x : Str} (g : Gd ta mm xc tp k sc N W X) (h : glB sc x = true) : Gl X x := by
  have := glB_gl h
  rw [← g.sc] at this
  exact this
theorem Gd.vis {k : Nat} {sc : Scope} {N : List Str} {W : WX} {x : Str} (g : Gd ta mm xc tp k sc N W X) (h : visB sc x = true) : Vis X.env.scope x := by
  rw [g.sc]
  exact visB_vis h
/-- the range, enumerate, zip of a for; what else is walked -/
theorem pi_of {k : Nat} {sc : Scope} {N : List Str} {W : WX} (g : Gd ta mm xc tp k sc N W X) {f : Expr → Option E} (hf : ∀ e m, f e = some m → PE X e (wE (rx X ta mm xc) k m W)) {tg it : Expr} {m : I} (h : cI f sc tg it = some m) :
    PI X tg it (wI (rx X ta mm xc) k m W) := by
  have seq : ∀ {e : Expr} {m : I}, (f e).map I.seq = some m → PI X tg e (wI (rx X ta mm xc) k m W) := fun {e m} h => by
    obtain ⟨x, h1, h2⟩ := Option.map_eq_some_iff.mp h
    cases h2
    exact pi_seq (hf _ _ h1)
  unfold cI at h
  split at h
  · rename_i x p args pos
    split at h
    · rename_i hg
      have gl := g.gl hg
      split at h
      · rename_i hx
        subst hx
        have hm : X.mg "range" = none := g.blt _ (by decide +kernel)
        split at h
        · rename_i a
          split at h
          · rename_i hn
            obtain ⟨x, h1, h2⟩ := Option.map_eq_some_iff.mp h
            cases h2
            refine PIi (pi_range1 gl hm (pa_cons (hf _ _ h1) pa_nil (starEach_ns hn)) (starEach_ns hn)) fun σ H Q q => ?_
            refine (show wE (rx X ta mm xc) k x W σ H fun x H1 => ∃ j : Int, [x] = [V.int j] ∧ -(2 ^ 62) ≤ j ∧ j < 2 ^ 62 ∧ Q (Itr 0 j.toNat) H1 from ?_)
            have mono : (fun (x : V) (H1 : Hp) => ∃ j : Int, x = .int j ∧ -(2 ^ 62) ≤ j ∧ j < 2 ^ 62 ∧ Q (Itr 0 j.toNat) H1) = fun x H1 => ∃ j : Int, [x] = [V.int j] ∧ -(2 ^ 62) ≤ j ∧ j < 2 ^ 62 ∧ Q (Itr 0 j.toNat) H1 := by
              funext x H1
              simp
            rw [← mono]
            exact q
          · cases h
        · rename_i a b
          split at h
          · rename_i hn
            simp only [Bool.and_eq_true] at hn
            split at h
            · rename_i m n h1 h2
              cases h
              refine PIi (pi_range2 gl hm (pa_cons (hf _ _ h1) (pa_cons (hf _ _ h2) pa_nil (starEach_ns hn.2)) (starEach_ns hn.1)) (by rw [starEach_ns hn.1, starEach_ns hn.2]; rfl) (starEach_ns hn.2)) fun σ H Q q => ?_
              refine (show wE (rx X ta mm xc) k m W σ H fun x H1 => wE (rx X ta mm xc) k n W σ H1 fun y H2 => ∃ i j : Int, [x, y] = [V.int i, V.int j] ∧ (-(2 ^ 62) ≤ i ∧ i < 2 ^ 62 ∧ -(2 ^ 62) ≤ j ∧ j < 2 ^ 62) ∧ Q (Itr i (j - i).toNat) H2 from ?_)
              have mono : ∀ x : V, (fun (y : V) (H2 : Hp) => ∃ i j : Int, x = .int i ∧ y = .int j ∧ (-(2 ^ 62) ≤ i ∧ i < 2 ^ 62 ∧ -(2 ^ 62) ≤ j ∧ j < 2 ^ 62) ∧ Q (Itr i (j - i).toNat) H2) = fun y H2 => ∃ i j : Int, [x, y] = [V.int i, V.int j] ∧ (-(2 ^ 62) ≤ i ∧ i < 2 ^ 62 ∧ -(2 ^ 62) ≤ j ∧ j < 2 ^ 62) ∧ Q (Itr i (j - i).toNat) H2 := by
                intro x
                funext y H2
                simp [and_assoc]
              simp only [← mono]
              exact q
            · cases h
          · cases h
        · cases h
      · split at h
        · rename_i hx
          subst hx
          have hm : X.mg "enumerate" = none := g.blt _ (by decide +kernel)
          split at h
          · rename_i a
            split at h
            · rename_i hn
              simp only [Bool.and_eq_true] at hn
              obtain ⟨x, h1, h2⟩ := Option.map_eq_some_iff.mp h
              cases h2
              cases tg with
              | Tuple elts kk tpos =>
                exact PIi (pi_enum2 gl hm (hf _ _ h1) (starEach_ns hn.1)) fun σ H Q q => q
              | _ => cases hn.2
            · cases h
          · cases h
        · split at h
          · rename_i hx
            subst hx
            have hm : X.mg "zip" = none := g.blt _ (by decide +kernel)
            split at h
            · rename_i a b
              split at h
              · rename_i hn
                simp only [Bool.and_eq_true] at hn
                split at h
                · rename_i m n h1 h2
                  cases h
                  cases tg with
                  | Tuple elts kk tpos =>
                    refine PIi (pi_zip gl hm (pa_cons (hf _ _ h1) (pa_cons (hf _ _ h2) pa_nil (starEach_ns hn.1.2)) (starEach_ns hn.1.1)) (starEach_ns hn.1.1) (by rw [starEach_ns hn.1.2]; rfl)) fun σ H Q q => ?_
                    refine (show wE (rx X ta mm xc) k m W σ H fun x H1 => wE (rx X ta mm xc) k n W σ H1 fun y H2 => ∃ a b xs ys, [x, y] = [V.ref a, V.ref b] ∧ SqL X.K H2 a xs ∧ SqL X.K H2 b ys ∧ Q (Itz X.K a b) H2 from ?_)
                    have mono : ∀ x : V, (fun (y : V) (H2 : Hp) => ∃ a b xs ys, x = V.ref a ∧ y = V.ref b ∧ SqL X.K H2 a xs ∧ SqL X.K H2 b ys ∧ Q (Itz X.K a b) H2) = fun y H2 => ∃ a b xs ys, [x, y] = [V.ref a, V.ref b] ∧ SqL X.K H2 a xs ∧ SqL X.K H2 b ys ∧ Q (Itz X.K a b) H2 := by
                      intro x
                      funext y H2
                      simp [and_assoc]
                    simp only [← mono]
                    exact q
                  | _ => cases hn.2
                · cases h
              · cases h
            · cases h
          · split at h
            · cases h
            · exact seq h
    · exact seq h
  · rename_i o mm apos cpos
    split at h
    · rename_i hmm
      subst hmm
      split at h
      · rename_i hn
        simp only [Bool.and_eq_true, Bool.not_eq_true'] at hn
        obtain ⟨x, h1, h2⟩ := Option.map_eq_some_iff.mp h
        cases h2
        cases tg with
        | Tuple elts kk tpos => exact pi_items (hf _ _ h1) (base_ns hn.1.2) hn.2
        | _ => cases hn.1.1
      · cases h
    · split at h
      · cases h
      · exact seq h
  · cases h
  · split at h
    · cases h
    · exact seq h
end
theorem relS_keep {scope sc : Scope} {x : Str} {k : NameKind} (hk : k ≠ .free) (h : scope.names.lookup x = some k) : (relS scope sc).names.lookup x = some k := by
  show (scope.names.map _).lookup x = some k
  generalize scope.names = l at h
  induction l with
  | nil => cases h
  | cons y r ih =>
    obtain ⟨n, k'⟩ := y
    rw [List.lookup_cons] at h
    simp only [List.map_cons]
    by_cases hx : x == n
    · rw [hx] at h
      cases h
      have : ¬ ((k == NameKind.free && sc.kind == .function && sc.names.lookup n == some .cell) = true) := by
        intro z
        simp only [Bool.and_eq_true, beq_iff_eq] at z
        exact hk z.1.1
      rw [if_neg this, List.lookup_cons, hx]
    · have hx' : (x == n) = false := by simpa using hx
      rw [hx'] at h
      split <;> (rw [List.lookup_cons, hx']; exact ih h)
section
variable {X : Cx} {ta : List (Addr × Str)} {mm : MT} {xc : XC} {tp : Md}
theorem Gd.w0 {k : Nat} {sc : Scope} {N : List Str} {W : WX} (g : Gd ta mm xc tp k sc N W X) : Gd ta mm xc tp k sc N W0 X := ⟨g.N, g.nd, g.sc, g.room, g.u65, g.calm, takes0, g.own, g.blt, g.exn, g.exq, g.exi, g.lam⟩
theorem Gd.blk {k : Nat} {sc : Scope} {N : List Str} {W : WX} (g : Gd ta mm xc tp k sc N W X) (hcm : tp.c = true) (scope : Scope) (s : Shared) (H : Hp) (C : Addr) (cl : List (Str × Addr)) (fp : List Addr) : Gd ta mm xc .no k (relS scope sc) N W0 (X.blk s H scope (compEnvC scope cl C X.env) fp) := by
  refine ⟨g.N, g.nd, ?_, fun _ => g.room hcm, g.u65, fun _ => g.calm hcm, takes0, PassesOwn.never, g.blt, fun _ => g.exn hcm, (fun z => by cases z), (fun z => by cases z), (fun z => by cases z)⟩
  show (compEnvC scope cl C X.env).scope = _
  rw [← g.sc] <;> rfl
theorem Gd.blkz {k : Nat} {sc : Scope} {N : List Str} {W : WX} {pins : List (Addr × Obj)} {σ : L2.St} {H : Hp} {s : Shared} {scope : Scope} {own : List (Str × Nat)} {fp : List Addr} (g : Gd ta mm xc tp k sc N W X) (htl : tp.l = true) (hcm : tp.c = true) (I : Inv X pins σ H s) (ok : BlkOk X.N X.env.scope scope own) (hfp : ∀ b ∈ fp, FpOk X pins H b) : Gd ta (blkM X σ (bCx X s H scope fp)) xc .bz k (relS scope sc) N W0 (bCx X s H scope fp) := by
  obtain ⟨_, hl, _, c, P, TB, hcode, hm, hu⟩ := g.lam (Md.lz htl)
  refine ⟨g.N, g.nd, ?_, fun _ => g.room hcm, g.u65, fun _ => g.calm hcm, takes0, PassesOwn.never, g.blt, fun _ => g.exn hcm, (fun z => by cases z), (fun z => by cases z), fun _ => ⟨czFor_blk (hl htl).1 I ok hfp, (fun z => by cases z), fun _ _ _ z => .inl z, c, P, TB, hcode, hm, hu⟩⟩
  show (compEnvC scope _ _ X.env).scope = _
  rw [← g.sc] <;> rfl
theorem tg_blk {scope : Scope} (s : Shared) (H : Hp) (C : Addr) (cl : List (Str × Addr)) (fp : List Addr) : TgOk (X.blk s H scope (compEnvC scope cl C X.env) fp) scope true := fun x => by
  have e : (X.blk s H scope (compEnvC scope cl C X.env) fp).env.scope = relS scope X.env.scope := rfl
  rw [e]
  refine ⟨fun h => relS_keep (by decide) h, fun _ h => ⟨relS_keep (by decide) h, ?_⟩⟩
  show (scope.names.lookup x == some .cell) = true
  rw [h] <;> rfl
theorem PEor {e : Expr} {t t' : TE} (h : PE X e t) (h' : PE X e t') : PE X e (fun σ H Q => t σ H Q ∨ t' σ H Q) := ⟨fun pins s σ H Q I q => q.elim (h.run pins s σ H Q I) (h'.run pins s σ H Q I)⟩
theorem PSor {e : Stmt} {t t' : TS} (h : PS X e t) (h' : PS X e t') : PS X e (fun D σ H => t D σ H ∨ t' D σ H) := ⟨fun pins s σ H Q I q => q.elim (h.run pins s σ H Q I) (h'.run pins s σ H Q I)⟩
theorem chain_m {o1 o2 : CmpOp} {b c : Expr} (hb : setB b = false) (hc : setB c = false) : lastMarks [o1, o2] [b, c] = false := by
  show behindInMarks o2 c = false
  cases c <;> first | rfl | cases hc
/-- f(..) of the module -/
theorem pe_glcall {k : Nat} {sc : Scope} {N : List Str} {W : WX} (g : Gd ta mm xc tp k sc N W X) (hcm : tp.c = true) {f : Expr → Option E} (hf : ∀ e m, f e = some m → PE X e (wE (rx X ta mm xc) k m W)) {x : Str} {p pos : Pos} {args : List Expr} {es : Es} (hx : glB sc x = true) (ho : okName x = true) (h : cEs f args = some es) :
    PE X (.Call (.Name x p) args [] pos) (wE (rx X ta mm xc) k (.call x es) W) := by
  have gl := g.gl hx
  obtain ⟨hd, hcd, hn⟩ := okName_d ho
  refine ⟨fun pins s σ H Q I q => ?_⟩
  obtain ⟨a, hm, hk, q⟩ := q
  refine wpAny_Call_Name_kw (ld_glob I gl hm ?_ hd)
  cases args with
  | nil =>
    cases h
    obtain ⟨sp, c, q⟩ := q
    exact PySem.W.callWith_K0 I.kIn hk (c.run X rfl (g.room hcm) pins σ H s Q _ [] [] I (passAt g.tk σ) .nil q)
  | cons e r =>
    obtain ⟨h1, m, ms', rfl, h2⟩ := cEs_ns h
    refine PySem.W.callWith_K (h₀ := X.base) I.ok.mod.kin hk (thn ((pa_of hf h).run pos pins s σ H _ I q) fun us s1 ⟨vs, H1, I1, r1, sp, c, q1⟩ => ⟨I1.kIn, ?_⟩) (starEach_ns h1) (star_any h2)
    exact c.run X rfl (g.room hcm) pins σ H1 s1 Q _ us vs I1 (passAt g.tk σ) r1 q1
/-- o.m(..) -/
theorem pe_ometh {k : Nat} {sc : Scope} {N : List Str} {W : WX} (g : Gd ta mm xc tp k sc N W X) {f : Expr → Option E} (hf : ∀ e m, f e = some m → PE X e (wE (rx X ta mm xc) k m W)) {o : Expr} {m : Str} {a : E} {apos pos : Pos} {args : List Expr} {es : Es}
    (ho : PE X o (wE (rx X ta mm xc) k a W)) (hc : callB o = false) (hl : (apos.endLine == pos.line) = true) (h30 : args.length < 30) (h : cEs f args = some es) : PE X (.Call (.Attribute o m apos) args [] pos) (wE (rx X ta mm xc) k (.meth a m (mtsOf m) es) W) := by
  refine ⟨fun pins s σ H Q I q => ?_⟩
  refine meth_at (base_ns hc) ?_ hl (thn (ho.run pins s σ H _ I q) fun v s1 ⟨x, H1, I1, r1, q1⟩ pl => ?_)
  · rw [star_all h]
    simp [h30, backToKw, keywordEach]
  · rcases q1 with ⟨hxn, p, C, dx, fs, gg, rfl, e, cl, hm, lk, q1⟩ | ⟨t, ht, ty, q1⟩
    · obtain rfl : v = Value.ref p := r1
      refine getmeth_ok I1 e cl hm lk ?_
      cases args with
      | nil =>
        cases h
        obtain ⟨sp, c, q1⟩ := q1
        exact PySem.W.callWith_K0 (first := [.ref p]) I1.kIn hm.kp (c.run X rfl (g.room (g.c_of hxn)) pins σ H1 s1 Q _ [.ref p] [.ref p] I1 (passAt g.tk σ) (.cons rfl .nil) q1)
      | cons e r =>
        obtain ⟨h1, m', ms', rfl, h2⟩ := cEs_ns h
        refine PySem.W.callWith_K (first := [.ref p]) (h₀ := X.base) I.ok.mod.kin hm.kp (thn ((pa_of hf h).run pos pins s1 σ H1 _ I1 q1) fun us s2 ⟨vs, H2, I2, r2, sp, c, q2⟩ => ⟨I2.kIn, ?_⟩) (starEach_ns h1) (star_any h2)
        exact c.run X rfl (g.room (g.c_of hxn)) pins σ H2 s2 Q _ (.ref p :: us) (.ref p :: vs) I2 (passAt g.tk σ) (.cons rfl r2) q2
    · obtain ⟨id, pa, slot, hty, mt⟩ := m_all (g.u65) t
      rw [mtsOf_name ht] at slot
      obtain ⟨h1, h2⟩ := tyV_is I1 r1 ty
      refine PySem.getMethod_builtin h1 pa slot hty h2 ?_
      cases args with
      | nil =>
        cases h
        exact Calls.callWith_builtin rfl (PySem.evalArgs_none (mt pins s1 σ H1 x [] v [] Q I1 r1 .nil q1))
      | cons e r =>
        obtain ⟨h3, m', ms', rfl, h4⟩ := cEs_ns h
        have hA := (pa_of hf h).run pos pins s1 σ H1 _ I1 q1
        rw [starEach_ns h3] at hA ⊢
        refine Calls.callWith_builtin (by show (false || (backTo pos (starEach r X.env)).any (·.1)) = false; rw [star_any h4] <;> rfl) (Calls.evalArgs_plain ?_)
        exact thn hA fun us s2 ⟨vs, H2, I2, r2, q2⟩ => mt pins s2 σ H2 x vs v us Q I2 r1 r2 q2
/-- a built-in function or type -/
theorem pe_bicall {k : Nat} {sc : Scope} {N : List Str} {W : WX} (g : Gd ta mm xc tp k sc N W X) {f : Expr → Option E} (hf : ∀ e m, f e = some m → PE X e (wE (rx X ta mm xc) k m W)) {b : Bi} {p pos : Pos} {e : Expr} {r : List Expr} {es : Es} (hx : glB sc (biName b) = true) (hq : quB b = true ∨ tp.c = true) (h : cEs f (e :: r) = some es) :
    PE X (.Call (.Name (biName b) p) (e :: r) [] pos) (wE (rx X ta mm xc) k (.callB b es) W) := by
  obtain ⟨hv, hk, hn, hd⟩ := b_bi b
  obtain ⟨h1, m, ms', rfl, h2⟩ := cEs_ns h
  have hm : X.mg (biName b) = none := g.blt _ (biName_mem b)
  rcases hk with ⟨i, hi⟩ | ⟨i, hi⟩
  · rw [hi] at hv
    have c := c_bi (X := X) b g.u65 (hq.imp_right g.calm) g.ex
    rw [hi] at c
    exact pe_callB c (g.gl hx) hm hv (pa_of hf h) hn hd (starEach_ns h1) (star_any h2)
  · rw [hi] at hv
    have c := c_bi (X := X) b g.u65 (hq.imp_right g.calm) g.ex
    rw [hi] at c
    exact pe_callTy c (g.gl hx) hm hv (pa_of hf h) hn hd (starEach_ns h1) (star_any h2)
/-- a call to which lambdas are handed -/
theorem pe_zcall {k : Nat} {sc : Scope} {N : List Str} {W : WX} (g : Gd ta mm xc tp k sc N W X) {f : Expr → Option E} (hf : ∀ e m, f e = some m → PE X e (wE (rx X ta mm xc) k m W)) {x : Str} {p pos : Pos} {e : Expr} {r : List Expr} {es : Es} (hx : glB sc x = true) (hd : (x == ("__debug__" : Str)) = false) (htp : tp.z = true) (h : cEs f (e :: r) = some es) :
    PE X (.Call (.Name x p) (e :: r) [] pos) (wE (rx X ta mm xc) k (.callZ x es) W) := by
  obtain ⟨hcf, _⟩ := g.lam htp
  refine ⟨fun pins s σ H Q I q => ?_⟩
  obtain ⟨a, hm, hk, q⟩ := q
  refine wpAny_Call_Name_kw (ld_glob I (g.gl hx) hm ?_ hd)
  obtain ⟨h1, m, ms', rfl, h2⟩ := cEs_ns h
  refine PySem.W.callWith_K (h₀ := X.base) I.ok.mod.kin hk (thn ((pa_of hf h).run pos pins s σ H _ I q) fun us s1 ⟨vs, H1, I1, r1, sp, c, q1⟩ => ⟨I1.kIn, ?_⟩) (starEach_ns h1) (star_any h2)
  obtain ⟨cz, Z, hl⟩ := hcf _ _ _ _ I1
  exact run_z c (g.room (Md.zc htp)) Z I1 r1 (q1 cz Z.k Z.n fun f fz φ hM j => hl f fz φ hM j)
/-- a name of the module -/
theorem pe_gl {k : Nat} {sc : Scope} {N : List Str} {W : WX} {x : Str} {p : Pos} (g : Gd ta mm xc tp k sc N W X) (hg : glB sc x = true) (hd : (x == ("__debug__" : Str)) = false) : PE X (.Name x p) (fun σ H Q => ∃ v u, X.mg x = some u ∧ RelV v u ∧ Q v H) := by
  refine ⟨fun pins s σ H Q I q => ?_⟩
  obtain ⟨v, u, hv, r, q⟩ := q
  exact (pe_glob (g.gl hg) hv r hd).run pins s σ H Q I q
/-- a lambda's value -/
theorem pe_lamv {k : Nat} {sc : Scope} {N : List Str} {W : WX} {params : Arguments} {body : Expr} {scope : Scope} {pos : Pos} {l : List (Str × Int)} {b : E} (htp : tp.z = true) (g : Gd ta mm xc tp k sc N W X) (hl : lparB params = some l) (hlam : lamB N sc scope l = true)
    (hb : ∀ (j : Nat) (A : Around) (outer : List Env) (s : Shared) (H : Hp) (E : XK) (f c' : Addr), Room j (A.deeper (LamX.lamEnv X scope s.heap.objs.size f c')) → PE (LamX.lamCx X A outer s H E scope f c') body (wE (rx X ta mm xc) j b fun cls d _ H' => E cls d H')) :
    PE X (.Lambda params body scope pos) (wE (rx X ta mm xc) k (.lam b) W) := by
  obtain ⟨_, _, hmm, c, P, TB, hcode, hm, hu⟩ := g.lam htp
  have L : LamSc X.N X.env.scope scope l := by
    rw [g.N, g.sc]
    exact lamB_ok hlam
  refine ⟨fun pins s σ H Q I q => ?_⟩
  obtain ⟨hT, q⟩ := q
  refine (pe_lam (lparB_ok hl) L TB hcode hm hu).run pins s σ H Q I ⟨hT, fun f fz H1 k1 t1 z1 md => q f fz H1 k1 t1 z1 (by obtain ⟨_, _, _, _, _, _, _, _, z⟩ := md; exact z) ?_⟩
  have of_ : ∀ φ, Mof X f fz φ → mm f fz φ := fun φ h => hmm f fz φ h
  exact of_ _ fun σ cz ck j => lamOk_of (t := fun E σ H Q => wE (rx X ta mm xc) j b (fun cls d _ H' => E cls d H') σ H Q) ck md (lparB_ok hl) L I.ok.glob fun A outer s H E f c' hr => hb j A outer s H E f c' hr
/-- THE READING HOLDS: of an expression and of a test that were read over -/
theorem sE_all (ta : List (Addr × Str)) (xc : XC) (N : List Str) : ∀ n, (∀ {mm : MT} (tp : Md) (sc : Scope) (e : Expr) (m : E), cE N n tp sc e = some m → ∀ (k : Nat) (W : WX) (X : Cx), Gd ta mm xc tp k sc N W X → PE X e (wE (rx X ta mm xc) k m W)) ∧
    (∀ {mm : MT} (tp : Md) (sc : Scope) (e : Expr) (m : T), cT N n tp sc e = some m → ∀ (k : Nat) (W : WX) (X : Cx), Gd ta mm xc tp k sc N W X → PT X e (wT (rx X ta mm xc) k m W) ∧ ∀ op vs p, e = .BoolOp op vs p → PW X e (wT (rx X ta mm xc) k m W)) := by
  intro n
  induction n with
  | zero => exact ⟨@fun _ _ _ _ _ h => (by unfold cE at h; cases h), @fun _ _ _ _ _ h => (by unfold cT at h; cases h)⟩
  | succ n ih =>
    obtain ⟨ihE, ihT⟩ := ih
    refine ⟨@fun mm tp sc e m h k W X g => ?_, @fun mm tp sc e m h k W X g => ?_⟩
    · have hf : ∀ e m, cE N n tp sc e = some m → PE X e (wE (rx X ta mm xc) k m W) := fun e m h => ihE tp sc e m h k W X g
      have hu := g.u65
      unfold cE at h
      cases e with
      | Name x p =>
        dsimp only at h
        split at h
        · rename_i ho
          obtain ⟨hd, hcd, hn⟩ := okName_d ho
          split at h
          · rename_i hv
            obtain ⟨i, h1, h2⟩ := Option.map_eq_some_iff.mp h
            cases h2
            exact pe_var (by rw [g.N]; exact ixOf_get h1) (g.vis hv) hd hcd
          · split at h
            · rename_i hg
              split at h
              · rename_i hc
                cases h
                refine ⟨fun pins s σ H Q I q => ?_⟩
                obtain ⟨v, u, hv, r, q⟩ := q
                exact (pe_bltn (g.gl hg) (g.blt _ (clsNames_blt _ hc)) hv r hn hd).run pins s σ H Q I q
              · cases h
                refine ⟨fun pins s σ H Q I q => ?_⟩
                obtain ⟨v, u, hv, r, q⟩ := q
                exact (pe_glob (g.gl hg) hv r hd).run pins s σ H Q I q
            · cases h
        · cases h
      | Constant c j p =>
        dsimp only at h
        split at h <;> first | (cases h; first | exact pe_int | exact pe_str | exact pe_bl | exact pe_non) | cases h
      | BinOp a op b p =>
        dsimp only at h
        split at h
        · rename_i x y h1 h2
          cases h
          exact pe_op (o_bin op) (hf _ _ h1) (hf _ _ h2)
        · cases h
      | UnaryOp op a p =>
        dsimp only at h
        split at h
        · obtain ⟨x, h1, h2⟩ := Option.map_eq_some_iff.mp h
          cases h2
          exact pe_un un_neg (hf _ _ h1)
        · obtain ⟨x, h1, h2⟩ := Option.map_eq_some_iff.mp h
          cases h2
          exact pe_notT (hf _ _ h1)
        · cases h
      | BoolOp op vs p =>
        dsimp only at h
        split at h
        · cases h
        · exact pe_one (hf _ _ h)
        · rename_i a b r
          split at h
          · rename_i x y h1 h2
            cases h
            cases op
            · exact pe_andT (hf _ _ h1) (hf _ _ h2)
            · exact pe_orT (hf _ _ h1) (hf _ _ h2)
          · cases h
      | Compare a ops cs p =>
        dsimp only at h
        split at h
        · rename_i op b
          split at h
          · cases h
          · rename_i hm
            split at h
            · rename_i ng x h1 h2
              obtain ⟨m, h3, h4⟩ := Option.map_eq_some_iff.mp h
              cases h4
              obtain ⟨p2, rfl, ho, hg⟩ := glN_eq h2
              have e := inOp_eq h1
              subst e
              exact pe_cmpR ((o_inK ng).or (o_cmp _ hu)) (hf _ _ h3) (pe_gl g hg (okName_d ho).1) (by simpa using hm)
            · split at h
              · rename_i x y h1 h2
                cases h
                exact pe_cmpR (o_cmp op hu) (hf _ _ h1) (hf _ _ h2) (by simpa using hm)
              · cases h
        · rename_i o1 o2 b c
          split at h
          · cases h
          · rename_i hm
            simp only [Bool.or_eq_true, not_or, Bool.not_eq_true] at hm
            split at h
            · rename_i x y z h1 h2 h3
              cases h
              exact pe_chain (o_cmp o1 hu) (o_cmp o2 hu) (hf _ _ h1) (hf _ _ h2) (hf _ _ h3) (chain_m hm.1 hm.2)
            · cases h
        · cases h
      | IfExp t a b p =>
        dsimp only at h
        split at h
        · rename_i x y z h1 h2 h3
          cases h
          exact pe_ifExp (ihT tp sc _ _ h1 k W X g).1 (hf _ _ h2) (hf _ _ h3)
        · cases h
      | Attribute a f p =>
        dsimp only at h
        split at h
        · cases h
        · rename_i hc
          obtain ⟨x, h1, h2⟩ := Option.map_eq_some_iff.mp h
          cases h2
          cases htc : tp.c with
          | true =>
            simp only [if_true]
            exact pe_fld (hf _ _ h1) (base_ns (by simpa using hc))
          | false => exact (g.exi htc).2 _ _ _ _ (hf _ _ h1) (base_ns (by simpa using hc))
      | Subscript a i p =>
        dsimp only at h
        split at h
        · split at h
          · rename_i x l hh h1 h2 h3
            cases h
            exact pe_slice x_cut (hf _ _ h1) (po_of hf h2) (po_of hf h3)
          · cases h
        · obtain ⟨x, h1, h2⟩ := Option.map_eq_some_iff.mp h
          cases h2
          exact pe_revX (hf _ _ h1)
        · split at h
          · cases h
          · rename_i hs
            split at h
            · rename_i x h1
              obtain ⟨m, h3, h4⟩ := Option.map_eq_some_iff.mp h
              cases h4
              obtain ⟨p2, rfl, ho, hg⟩ := glN_eq h1
              refine PEi (pe_ix (ix_kdict.or (x_sub hu)) (pe_gl g hg (okName_d ho).1) (hf _ _ h3) (plain_ns (by simpa using hs))) fun σ H Q q => ?_
              obtain ⟨y, u, q1, q2, q3⟩ := q
              exact ⟨y, u, q1, q2, q3⟩
            · split at h
              · rename_i x y h1 h2
                cases h
                exact pe_ix (x_sub hu) (hf _ _ h1) (hf _ _ h2) (plain_ns (by simpa using hs))
              · cases h
      | Tuple es j p =>
        dsimp only at h
        split at h
        · rename_i a b p2
          split at h
          · rename_i hn
            split at h
            · rename_i x y h1 h2
              cases h
              exact pe_tup (pa_cons (hf _ _ h1) (StX.pa_star (hf _ _ h2) pa_nil) (starEach_ns hn))
            · cases h
          · cases h
        · obtain ⟨x, h1, h2⟩ := Option.map_eq_some_iff.mp h
          cases h2
          exact pe_tup (pa_of hf h1)
      | List es p =>
        dsimp only at h
        split at h
        · rename_i a p2 b
          split at h
          · rename_i hn
            split at h
            · rename_i x y h1 h2
              cases h
              exact pe_lst (StX.pa_star (hf _ _ h1) (pa_cons (hf _ _ h2) pa_nil (starEach_ns hn)))
            · cases h
          · cases h
        · obtain ⟨x, h1, h2⟩ := Option.map_eq_some_iff.mp h
          cases h2
          exact pe_lst (pa_of hf h1)
      | Dict ks vs p =>
        dsimp only at h
        split at h
        · rename_i he
          cases h
          obtain ⟨he1, he2⟩ := Bool.and_eq_true_iff.mp he
          obtain rfl := List.isEmpty_iff.mp he1
          obtain rfl := List.isEmpty_iff.mp he2
          exact PEor pe_dnewK pe_dnewT
        split at h
        · cases h
        · rename_i hc
          simp only [Bool.or_eq_true, not_or, Bool.not_eq_true, Bool.not_eq_false', decide_eq_true_eq, Bool.not_eq_true'] at hc
          obtain ⟨x, h1, h2⟩ := Option.map_eq_some_iff.mp h
          cases h2
          obtain ⟨p1, p2⟩ := pps_of hf (pos := p) h1
          obtain ⟨⟨c1, c2⟩, c3⟩ := hc
          exact pe_disp p1 p2 (by simpa using c2) (by intro z; rw [z] at c1; cases c1) (by simpa using c3)
      | Call f args kws pos =>
        dsimp only at h
        split at h
        · rename_i a params body scope hk
          split at h
          · rename_i hcc
            simp only [Bool.and_eq_true] at hcc
            obtain ⟨⟨⟨htp, hcm⟩, hns⟩, hgs⟩ := hcc
            split at h
            · rename_i z hl
              split at h
              · rename_i hlam
                split at h
                · rename_i i x b h1 h2 h3
                  cases h
                  obtain ⟨p, lp, kp, rfl, rfl, rfl⟩ := srtK_eq hk
                  obtain rfl : tp = .lam := by cases tp <;> first | rfl | (cases htp)
                  obtain ⟨p2, rfl⟩ := lpar1_ok hl
                  obtain ⟨_, hfn, _, c, P, TB, hcode, hm, hu2⟩ := g.lam rfl
                  have hfn := (hfn rfl).1
                  have L : LamSc1 X.env.scope scope z := by
                    rw [g.sc]
                    exact lamB1_ok hlam
                  refine ⟨fun pins s σ H Q I q => ?_⟩
                  obtain ⟨hk3, q⟩ := q
                  exact (pe_srt (g.calm rfl) hfn g.nd ((g.room rfl).mono hk3) (g.gl hgs) (g.blt _ (by decide +kernel)) (hf _ _ h2) (starEach_ns hns) (by rw [starEach_ns hns] <;> rfl) L (by rw [g.N]; exact ixOf_get h1) TB hcode hm hu2 I.ok.glob
                    fun A outer s H E f c' hr => ihE .no scope body b h3 0 W0 (LamX.lamCx X A outer s H E scope f c') ⟨g.N, g.nd, rfl, fun _ => hr, Zw.Room.u65 hr, fun _ => rfl, takes0, passes_of rfl, g.blt, fun _ => g.exn rfl, (fun z => by cases z), (fun z => by cases z), (fun z => by cases z)⟩).run pins s σ H Q I q
                · cases h
              · cases h
            · cases h
          · cases h
        split at h
        · rename_i elt gens scope hk
          split at h
          · rename_i tg iter ifs asy _
            split at h
            · rename_i hc
              simp only [Bool.and_eq_true, decide_eq_true_eq, Bool.not_eq_true'] at hc
              obtain ⟨⟨⟨⟨hasy, hblk⟩, hset⟩, hcm⟩, hgl⟩ := hc
              subst hasy
              split at h
              · rename_i it gg tt x h1 h2 h3 h4
                cases h
                obtain ⟨p, p2, rfl, rfl⟩ := lenSC_eq hk
                have hf0 : ∀ e m, cE N n tp sc e = some m → PE X e (wE (rx X ta mm xc) k m W0) := fun e m h => ihE tp sc e m h k W0 X g.w0
                have ok : BlkOk X.N X.env.scope scope (ownOf N (tgNames tg)) := by
                  rw [g.N, g.sc]
                  exact blkOk_by hblk
                have one : PE X (.SetComp elt [⟨tg, iter, ifs, 0⟩] scope p2) (tSi X.w (fun σ H S => wI (rx X ta mm xc) k it W0 σ H S) (gTg (rx X ta mm xc).K gg) (fun σ H S => wT (rx X ta mm xc) k tt W0 σ H S) (fun σ H S => wE (rx X ta mm xc) k x W0 σ H S) ((ownOf N (tgNames tg)).map (·.2))) := by
                  refine pe_si (g.calm hcm) g.nd (pi_of g.w0 hf0 h1) ok (fun s H C cl fp => ?_) (fun s H C cl fp => ?_) (fun s H C cl fp => ?_) (fold_ns hset)
                  · exact pg_tg (tg_blk s H C cl fp) g.nd (g.calm hcm) (by rw [show (X.blk s H scope (compEnvC scope cl C X.env) fp).N = N from g.N]; exact h2)
                  · have gb := g.blk hcm scope s H C cl fp
                    split at h3
                    · cases h3
                      exact pts_nil
                    · exact pts_one (ihT _ _ _ _ h3 k W0 _ gb).1
                    · cases h3
                  · exact ihE _ _ _ _ h4 k W0 _ (g.blk hcm scope s H C cl fp)
                refine PEi (pe_callB call_len_set (g.gl hgl) (g.blt _ (by decide +kernel)) PySem.boot_len (pa_cons one pa_nil)) fun σ H Q q => ?_
                exact q
              · cases h
            · cases h
          · cases h
        split at h
        · rename_i a hk
          split at h
          · rename_i hc
            simp only [Bool.and_eq_true] at hc
            obtain ⟨⟨⟨hns, hcm⟩, hg1⟩, hg2⟩ := hc
            obtain ⟨x, h1, h2⟩ := Option.map_eq_some_iff.mp h
            cases h2
            obtain ⟨p, p2, p3, rfl, rfl, rfl⟩ := setLC_eq hk
            exact PEi (pe_lenL (g.calm hcm) (g.gl hg1) (g.blt _ (by decide +kernel)) (g.gl hg2) (g.blt _ (by decide +kernel)) (hf _ _ h1) (starEach_ns hns)) fun σ H Q q => q
          · cases h
        split at h
        · rename_i a hk
          split at h
          · rename_i hc
            simp only [Bool.and_eq_true] at hc
            obtain ⟨⟨⟨hns, hcm⟩, hg1⟩, hg2⟩ := hc
            obtain ⟨x, h1, h2⟩ := Option.map_eq_some_iff.mp h
            cases h2
            obtain ⟨p, p2, p3, rfl, rfl, rfl⟩ := enlC_eq hk
            exact PEi (pe_enl (g.calm hcm) (g.gl hg1) (g.blt _ (by decide +kernel)) (g.gl hg2) (g.blt _ (by decide +kernel)) (hf _ _ h1) (starEach_ns hns)) fun σ H Q q => q
          · cases h
        split at h
        · rename_i a hk
          split at h
          · rename_i hc
            simp only [Bool.and_eq_true] at hc
            obtain ⟨⟨⟨hns, hcm⟩, hg1⟩, hg2⟩ := hc
            obtain ⟨x, h1, h2⟩ := Option.map_eq_some_iff.mp h
            cases h2
            obtain ⟨p, p2, p3, rfl, rfl, rfl⟩ := rglC_eq hk
            exact PEi (pe_rgl (g.calm hcm) (g.gl hg1) (g.blt _ (by decide +kernel)) (g.gl hg2) (g.blt _ (by decide +kernel)) (hf _ _ h1) (starEach_ns hns)) fun σ H Q q => q
          · cases h
        split at h
        · rename_i x p _ _ _ _ _
          split at h
          · rename_i ho
            obtain ⟨hd, hcd, _⟩ := okName_d ho
            split at h
            · rename_i hv
              split at h
              · rename_i hem
                obtain ⟨hem, hcm⟩ := Bool.and_eq_true_iff.mp hem
                obtain ⟨i, h1, h2⟩ := Option.map_eq_some_iff.mp h
                cases h2
                cases args with
                | cons _ _ => cases hem
                | nil =>
                  refine ⟨fun pins s σ H Q I q => ?_⟩
                  obtain ⟨f, G, sp, hs, hG, c, q⟩ := q
                  refine wpAny_Call_Name_kw (thn ((pe_var (pos := p) (i := i) (by rw [g.N]; exact ixOf_get h1) (g.vis hv) hd hcd).run pins s σ H (fun v H1 => v = .ref f ∧ H1 = H) I ⟨_, hs, rfl, rfl⟩) fun u s1 ⟨v, H1, I1, r1, e1, e2⟩ => ?_)
                  subst e1
                  subst e2
                  obtain rfl : u = Value.ref f := r1
                  exact PySem.W.callWith_F0 (c.at_ _ _ _ _ I1.hok hG) (c.run X rfl (g.room hcm) pins σ H1 s1 Q _ I1 hG (passAt g.tk σ) q)
              · cases h
            · split at h
              · rename_i hgl
                split at h
                · rename_i es h1
                  split at h
                  · rename_i b hb
                    split at h
                    · cases h
                    · rename_i hne
                      split at h
                      · rename_i hqu
                        cases h
                        have e := biOf_name hb
                        subst e
                        cases args with
                        | nil => exact absurd rfl hne
                        | cons a r => exact pe_bicall g hf hgl (by rcases Bool.or_eq_true_iff.mp hqu with z | z; exact .inr z; exact .inl z) h1
                      · cases h
                  · split at h
                    · rename_i hz
                      simp only [Bool.and_eq_true] at hz
                      split at h
                      · cases h
                      · rename_i hne
                        cases h
                        cases args with
                        | nil => exact absurd rfl hne
                        | cons a r => exact pe_zcall g hf hgl hd hz.1 h1
                    · split at h
                      · rename_i hcm
                        cases h
                        exact pe_glcall g hcm hf hgl ho h1
                      · cases h
                · cases h
              · cases h
          · cases h
        · rename_i o mth apos _ _ _ _
          split at h
          · cases h
          · rename_i hc
            simp only [Bool.or_eq_true, not_or, Bool.not_eq_true, Bool.not_eq_false', decide_eq_true_eq] at hc
            split at h
            · rename_i a es h1 h2
              cases h
              exact pe_ometh g hf (hf _ _ h1) hc.1.1 (by simpa using hc.1.2) (by simpa using hc.2) h2
            · cases h
        · rename_i sa si sp _ _ _ _
          split at h
          · rename_i hem
            obtain ⟨hem, hcm⟩ := Bool.and_eq_true_iff.mp hem
            obtain ⟨x, h1, h2⟩ := Option.map_eq_some_iff.mp h
            cases h2
            cases args with
            | cons _ _ => cases hem
            | nil =>
              refine ⟨fun pins s σ H Q I q => ?_⟩
              obtain ⟨hcf, _⟩ := g.lam (Md.lz hcm)
              refine PyProof.Rows.Call_ (thn ((hf _ _ h1).run pins s σ H _ I q) fun u s1 ⟨v, H1, I1, r1, f, e1, q1⟩ => ?_) rfl
              subst e1
              obtain rfl : u = Value.ref f := r1
              obtain ⟨cz, Z, hl⟩ := hcf _ _ _ _ I1
              obtain ⟨G, sp, c, hG, q2⟩ := q1 cz Z.k Z.n fun f fz φ hM j => hl f fz φ hM j
              exact PySem.W.callWith_F0 (c.at_ _ _ _ _ (env_join Z I1).hok hG) (run_zl c (g.room (Md.zc (Md.lz hcm))) Z I1 hG q2)
          · cases h
        · cases h
      | Lambda params body scope pos =>
        dsimp only at h
        split at h
        · rename_i htp
          split at h
          · rename_i l hl
            split at h
            · rename_i hlam
              obtain ⟨b, h1, h2⟩ := Option.map_eq_some_iff.mp h
              cases h2
              exact pe_lamv htp g hl hlam fun j A outer s H E f c' hr => ihE .no scope body b h1 j _ _ ⟨g.N, g.nd, rfl, fun _ => hr, Zw.Room.u65 hr, fun _ => rfl, takes_of rfl rfl rfl rfl, passes_of rfl, g.blt, fun _ => g.exn (Md.zc htp), (fun z => by cases z), (fun z => by cases z), (fun z => by cases z)⟩
            · cases h
          · cases h
        · cases h
      | DictComp kx vx gens scope p =>
        dsimp only at h
        split at h
        · rename_i tg iter ifs asy
          split at h
          · rename_i hc
            simp only [Bool.and_eq_true, decide_eq_true_eq, Bool.not_eq_true'] at hc
            obtain ⟨⟨⟨hasy, hblk⟩, hset⟩, hcm⟩ := hc
            subst hasy
            split at h
            · rename_i it gg tt x y h1 h2 h3 h4 h5
              cases h
              have hf0 : ∀ e m, cE N n tp sc e = some m → PE X e (wE (rx X ta mm xc) k m W0) := fun e m h => ihE tp sc e m h k W0 X g.w0
              have ok : BlkOk X.N X.env.scope scope (ownOf N (tgNames tg)) := by
                rw [g.N, g.sc]
                exact blkOk_by hblk
              have one : PE X (.DictComp kx vx [⟨tg, iter, ifs, 0⟩] scope p) (tDc (fun σ H S => wI (rx X ta mm xc) k it W0 σ H S) (gTg (rx X ta mm xc).K gg) (fun σ H S => wT (rx X ta mm xc) k tt W0 σ H S) (fun σ H S => wE (rx X ta mm xc) k x W0 σ H S) (fun σ H S => wE (rx X ta mm xc) k y W0 σ H S) ((ownOf N (tgNames tg)).map (·.2))) := by
                refine pe_dc (g.calm hcm) g.nd (pi_of g.w0 hf0 h1) ok (fun s H C cl fp => ?_) (fun s H C cl fp => ?_) (fun s H C cl fp => ?_) (fun s H C cl fp => ?_) (fold_ns hset)
                · exact pg_tg (tg_blk s H C cl fp) g.nd (g.calm hcm) (by rw [show (X.blk s H scope (compEnvC scope cl C X.env) fp).N = N from g.N]; exact h2)
                · have gb := g.blk hcm scope s H C cl fp
                  split at h3
                  · cases h3
                    exact pts_nil
                  · exact pts_one (ihT _ _ _ _ h3 k W0 _ gb).1
                  · cases h3
                · exact ihE _ _ _ _ h4 k W0 _ (g.blk hcm scope s H C cl fp)
                · exact ihE _ _ _ _ h5 k W0 _ (g.blk hcm scope s H C cl fp)
              exact PEor one (pe_lock one)
            · cases h
          · cases h
        · cases h
      | ListComp elt gens scope p =>
        dsimp only at h
        split at h
        · rename_i tg iter ifs asy
          split at h
          · rename_i hz
            obtain ⟨htl, _⟩ := Bool.and_eq_true_iff.mp hz
            split at h
            · rename_i hc
              simp only [Bool.and_eq_true, decide_eq_true_eq, Bool.not_eq_true'] at hc
              obtain ⟨⟨⟨hasy, hblk⟩, hset⟩, hcm⟩ := hc
              subst hasy
              split at h
              · rename_i it gg tt x h1 h2 h3 h4
                cases h
                have ok : BlkOk X.N X.env.scope scope (ownOf N (tgNames tg)) := by
                  rw [g.N, g.sc]
                  exact blkOk_by hblk
                have one : ∀ (W' : WX) (g : Gd ta mm xc tp k sc N W' X), PE X (.ListComp elt [⟨tg, iter, ifs, 0⟩] scope p) (fun σ => tLc (fun σ H S => wI (rx X ta mm xc) k it W' σ H S) (gTg (rx X ta mm xc).K gg) (fun σ H S => wT (rx X ta mm xc) k tt W0 σ H S) (fun σ' H S => ∀ M' : MT, (∀ f fz φ, mm f fz φ → M' f fz fun j _ cz => φ j σ cz) → wE { rx X ta mm xc with M := M' } k x W0 σ' H S) ((ownOf N (tgNames tg)).map (·.2)) σ) := fun W' g =>
                  pe_lcZ (te := fun σ σ' H S => ∀ M' : MT, (∀ f fz φ, mm f fz φ → M' f fz fun j _ cz => φ j σ cz) → wE { rx X ta mm xc with M := M' } k x W0 σ' H S) (g.calm hcm) g.nd (pi_of g (fun e m h => ihE tp sc e m h k W' X g) h1) ok (fun pins σ H s fp I hfp => ⟨pg_tg (tg_blk s H _ _ fp) g.nd (g.calm hcm) (by rw [show (bCx X s H scope fp).N = N from g.N]; exact h2), (by
                    have gb := g.blk hcm scope s H s.heap.objs.size (bCells X s scope) fp
                    split at h3
                    · cases h3
                      exact pts_nil
                    · exact pts_one (ihT _ _ _ _ h3 k W0 _ gb).1
                    · cases h3), PEi (ihE _ _ _ _ h4 k W0 _ (g.blkz htl hcm I ok hfp)) fun σ' H Q q => q _ fun f fz φ hM => .inr ⟨φ, by rw [((g.lam (Md.lz htl)).2.1 htl).2] at hM; exact hM, rfl⟩⟩) (fold_ns hset)
                exact PEor (one W g) (pe_lock (one W0 g.w0))
              · cases h
            · cases h
          · split at h
            · rename_i hc
              simp only [Bool.and_eq_true, decide_eq_true_eq, Bool.not_eq_true'] at hc
              obtain ⟨⟨⟨hasy, hblk⟩, hset⟩, hcm⟩ := hc
              subst hasy
              split at h
              · rename_i it gg tt x h1 h2 h3 h4
                cases h
                have hN : X.N = N := g.N
                have ok : BlkOk X.N X.env.scope scope (ownOf N (tgNames tg)) := by
                  rw [g.N, g.sc]
                  exact blkOk_by hblk
                have one : ∀ (W' : WX) (g : Gd ta mm xc tp k sc N W' X), PE X (.ListComp elt [⟨tg, iter, ifs, 0⟩] scope p) (tLc (fun σ H S => wI (rx X ta mm xc) k it W' σ H S) (gTg (rx X ta mm xc).K gg) (fun σ H S => wT (rx X ta mm xc) k tt W0 σ H S) (fun σ H S => wE (rx X ta mm xc) k x W0 σ H S) ((ownOf N (tgNames tg)).map (·.2))) := fun W' g => by
                  refine pe_lc (g.calm hcm) g.nd (pi_of g (fun e m h => ihE tp sc e m h k W' X g) h1) ok (fun s H C cl fp => ?_) (fun s H C cl fp => ?_) (fun s H C cl fp => ?_) (fold_ns hset)
                  · exact pg_tg (tg_blk s H C cl fp) g.nd (g.calm hcm) (by rw [show (X.blk s H scope (compEnvC scope cl C X.env) fp).N = N from g.N]; exact h2)
                  · have gb := g.blk hcm scope s H C cl fp
                    split at h3
                    · cases h3
                      exact pts_nil
                    · exact pts_one (ihT _ _ _ _ h3 k W0 _ gb).1
                    · cases h3
                  · exact ihE _ _ _ _ h4 k W0 _ (g.blk hcm scope s H C cl fp)
                exact PEor (one W g) (pe_lock (one W0 g.w0))
              · cases h
            · cases h
        · cases h
      | _ => cases h
    · have hf : ∀ e m, cE N n tp sc e = some m → PE X e (wE (rx X ta mm xc) k m W) := fun e m h => ihE tp sc e m h k W X g
      unfold cT at h
      cases e with
      | UnaryOp op a p =>
        refine ⟨?_, fun _ _ _ z => by cases z⟩
        cases op with
        | Not =>
          dsimp only at h
          obtain ⟨x, h1, h2⟩ := Option.map_eq_some_iff.mp h
          cases h2
          exact pt_not (ihT _ _ _ _ h1 k W X g).1
        | _ =>
          dsimp only at h
          obtain ⟨x, h1, h2⟩ := Option.map_eq_some_iff.mp h
          cases h2
          exact pt_truth (hf _ _ h1) fun _ => rfl
      | BoolOp op vs p =>
        have hw : PW X (.BoolOp op vs p) (wT (rx X ta mm xc) k m W) := by
          dsimp only at h
          split at h
          · cases h
          · have q := (ihT _ _ _ _ h k W X g).1
            cases op
            · exact pw_and1 q
            · exact pw_or1 q
          · rename_i a b r
            split at h
            · rename_i x y h1 h2
              cases h
              have q1 := (ihT _ _ _ _ h1 k W X g).1
              have q2 := (ihT _ _ _ _ h2 k W X g).2 _ _ _ rfl
              cases op
              · exact pw_and q1 q2
              · exact pw_or q1 q2
            · cases h
        exact ⟨hw.pt, fun _ _ _ z => hw⟩
      | Compare a ops cs p =>
        refine ⟨?_, fun _ _ _ z => by cases z⟩
        have hu := g.u65
        dsimp only at h
        split at h
        · rename_i op b
          split at h
          · cases h
          · rename_i hm
            split at h
            · rename_i ng x h1 h2
              obtain ⟨m, h3, h4⟩ := Option.map_eq_some_iff.mp h
              cases h4
              obtain ⟨p2, rfl, ho, hg⟩ := glN_eq h2
              have e := inOp_eq h1
              subst e
              exact pt_cmpR ((o_inK ng).or (o_cmp _ hu)) (hf _ _ h3) (pe_gl g hg (okName_d ho).1) (by simpa using hm)
            · split at h
              · rename_i x y h1 h2
                cases h
                exact pt_cmpR (o_cmp op hu) (hf _ _ h1) (hf _ _ h2) (by simpa using hm)
              · cases h
        · rename_i o1 o2 b c
          split at h
          · cases h
          · rename_i hm
            simp only [Bool.or_eq_true, not_or, Bool.not_eq_true] at hm
            split at h
            · rename_i x y z h1 h2 h3
              cases h
              exact pt_chain (o_cmp o1 hu) (o_cmp o2 hu) (hf _ _ h1) (hf _ _ h2) (hf _ _ h3) (chain_m hm.1 hm.2)
            · cases h
        · cases h
      | IfExp t a b p => cases h
      | _ =>
        refine ⟨?_, fun _ _ _ z => by cases z⟩
        dsimp only at h
        obtain ⟨x, h1, h2⟩ := Option.map_eq_some_iff.mp h
        cases h2
        exact pt_truth (hf _ _ h1) fun _ => rfl
end
/-- two names stored from two written values, one behind the other -/
def parB (sc : Scope) (x y : Str) (px py : Pos) (vs : List Expr) : Bool :=
  decide (sc.kind = .function) && decide (sc.names.lookup x = some .local) && decide (sc.names.lookup y = some .local) && decide (px.line = py.line) && !(x == y) && vs.all nsB && !vs.all (foldedForSure 8) && !vs.all (constantsAlone 8)
def par3B (sc : Scope) (x y z : Str) (px py pz : Pos) (vs : List Expr) : Bool :=
  decide (sc.kind = .function) && decide (sc.names.lookup x = some .local) && decide (sc.names.lookup y = some .local) && decide (sc.names.lookup z = some .local) && decide (px.line = py.line) && decide (px.line = pz.line) && !(x == y) && !(x == z) && !(y == z) && vs.all nsB && !vs.all (foldedForSure 8) && !vs.all (constantsAlone 8)
/-- an unpacking of a written tuple that is one tuple first -/
def unpB (sc : Scope) (ts vs : List Expr) : Bool :=
  !(ts.length == 2 || ts.length == 3) || ts.any (fun | .Name x _ => decide (sc.names.lookup x ≠ some .local) | _ => true) || vs.all (foldedForSure 8)
def cTts (f : Expr → Option E) (g : Expr → Option Nat) : List Expr → Option Tts
  | [] => some .nil
  | .Subscript a i _ :: r => if slB i then none else (match f a, f i, cTts f g r with | some x, some y, some ts => some (.sb x y ts) | _, _, _ => none)
  | .Attribute a fl _ :: r => (match f a, cTts f g r with | some x, some ts => some (.at x fl ts) | _, _ => none)
  | e :: r => (match g e, cTts f g r with | some i, some ts => some (.nm i ts) | _, _ => none)
def strB : Expr → Bool | .Constant (.str _) _ _ => true | _ => false
/-- name = [..] on one line -/
def lcB (sc : Scope) (x : Str) (px : Pos) : Expr → Bool
  | .ListComp _ _ scope p => decide (sc.kind = .function) && decide (sc.names.lookup x = some .local) && (px.line == p.line) && !(scope.names.any fun (n, k) => n == x && (k == .local || k == .cell))
  | _ => false
/-- x, *y -/
def cStar (g : Expr → Option Nat) : List Expr → Option (Nat × Nat)
  | [a, .Starred b _] => (match g a, g b with | some i, some j => some (i, j) | _, _ => none)
  | _ => none
theorem cStar_eq {g : Expr → Option Nat} {ts : List Expr} {i j : Nat} (h : cStar g ts = some (i, j)) : ∃ a b p, ts = [a, .Starred b p] ∧ g a = some i ∧ g b = some j := by
  unfold cStar at h
  split at h
  · split at h
    · rename_i h1 h2
      cases h
      exact ⟨_, _, _, rfl, h1, h2⟩
    · cases h
  · cases h
def cRaise (sc : Scope) : Option Expr → Option Expr → Option S
  | some (.Call (.Name x _) [.Constant (.str _) _ _] [] _), none => if okName x && glB sc x then some (.raise x) else none
  | _, _ => none
theorem cRaise_eq {sc : Scope} {e c : Option Expr} {m : S} (h : cRaise sc e c = some m) : ∃ x p z j p2 p3, e = some (.Call (.Name x p) [.Constant (.str z) j p2] [] p3) ∧ c = none ∧ m = .raise x ∧ okName x = true ∧ glB sc x = true := by
  unfold cRaise at h
  split at h
  · split at h
    · rename_i hc
      simp only [Bool.and_eq_true] at hc
      cases h
      exact ⟨_, _, _, _, _, _, rfl, rfl, rfl, hc.1, hc.2⟩
    · cases h
  · cases h
def cRaiseV (f : Expr → Option E) (sc : Scope) : Option Expr → Option Expr → Option S
  | some (.Call (.Name x _) [a] [] _), none => if okName x && glB sc x && nsB a then (f a).map (.raiseV x) else none
  | _, _ => none
theorem cRaiseV_eq {f : Expr → Option E} {sc : Scope} {e c : Option Expr} {m : S} (h : cRaiseV f sc e c = some m) : ∃ x p a p3 v, e = some (.Call (.Name x p) [a] [] p3) ∧ c = none ∧ m = .raiseV x v ∧ okName x = true ∧ glB sc x = true ∧ nsB a = true ∧ f a = some v := by
  unfold cRaiseV at h
  split at h
  · split at h
    · rename_i hc
      simp only [Bool.and_eq_true] at hc
      obtain ⟨v, h1, h2⟩ := Option.map_eq_some_iff.mp h
      cases h2
      exact ⟨_, _, _, _, v, rfl, rfl, rfl, hc.1.1, hc.1.2, hc.2, h1⟩
    · cases h
  · cases h
/-- return [f(..) for ..], f of the module -/
def cRetC (N : List Str) (f : Expr → Option E) (fb : Scope → Expr → Option E) (tp : Md) (sc : Scope) : Expr → Option S
  | .ListComp (.Call (.Name x _) (a :: r) [] _) [⟨tg, iter, [], asy⟩] scope _ =>
    if decide (asy = 0) && blkC N sc scope (ownOf N (tgNames tg)) && !setB iter && tp.c && okName x && glB (relS scope sc) x && (biOf x).isNone then
      (match cI f sc tg iter, cTg N scope true tg, cEs (fb (relS scope sc)) (a :: r) with
        | some it, some g, some es => some (.retC x es g it ((ownOf N (tgNames tg)).map (·.2)))
        | _, _, _ => none) else none
  | _ => none
theorem cRetC_eq {N : List Str} {f : Expr → Option E} {fb : Scope → Expr → Option E} {tp : Md} {sc : Scope} {e : Expr} {m : S} (h : cRetC N f fb tp sc e = some m) :
    ∃ x p a r p1 tg iter scope p2 it g es, e = .ListComp (.Call (.Name x p) (a :: r) [] p1) [⟨tg, iter, [], 0⟩] scope p2 ∧ m = .retC x es g it ((ownOf N (tgNames tg)).map (·.2)) ∧ blkC N sc scope (ownOf N (tgNames tg)) = true ∧ setB iter = false ∧ tp.c = true ∧ okName x = true ∧ glB (relS scope sc) x = true ∧
      cI f sc tg iter = some it ∧ cTg N scope true tg = some g ∧ cEs (fb (relS scope sc)) (a :: r) = some es := by
  unfold cRetC at h
  split at h
  · split at h
    · rename_i hc
      simp only [Bool.and_eq_true, decide_eq_true_eq, Bool.not_eq_true'] at hc
      obtain ⟨⟨⟨⟨⟨⟨h1, h2⟩, h3⟩, h4⟩, h5⟩, h6⟩, _⟩ := hc
      subst h1
      split at h
      · rename_i it g es q1 q2 q3
        cases h
        exact ⟨_, _, _, _, _, _, _, _, _, it, g, es, rfl, rfl, h2, h3, h4, h5, h6, q1, q2, q3⟩
      · cases h
    · cases h
  · cases h
/-- try .. except X as y: .. -/
def cTry (N : List Str) (f g : List Stmt → Option Ss) (tp : Md) (sc : Scope) (body : List Stmt) : List ExceptHandler → List Stmt → List Stmt → Option S
  | [.ExceptHandler (some (.Name x _)) (some y) (b₀ :: suite) _], [], [] => if tp.c && okName x && glB sc x && decide (sc.names.lookup y = some .local) then
      (match ixOf N y, f body, g (b₀ :: suite) with | some i, some a, some b => some (.tryAs x i a b) | _, _, _ => none) else none
  | _, _, _ => none
def cTryO (f g : List Stmt → Option Ss) (tp : Md) (sc : Scope) (body : List Stmt) : List ExceptHandler → List Stmt → List Stmt → Option S
  | [.ExceptHandler (some (.Name x _)) none (b₀ :: suite) _], [], [] => if tp.c && okName x && glB sc x then
      (match f body, g (b₀ :: suite) with | some a, some b => some (.tryOn x a b) | _, _ => none) else none
  | _, _, _ => none
theorem cTryO_eq {f g : List Stmt → Option Ss} {tp : Md} {sc : Scope} {body : List Stmt} {hs : List ExceptHandler} {oe fb : List Stmt} {m : S} (h : cTryO f g tp sc body hs oe fb = some m) :
    ∃ x np b₀ suite p a b, hs = [.ExceptHandler (some (.Name x np)) none (b₀ :: suite) p] ∧ oe = [] ∧ fb = [] ∧ tp.c = true ∧ okName x = true ∧ glB sc x = true ∧ f body = some a ∧ g (b₀ :: suite) = some b ∧ m = .tryOn x a b := by
  unfold cTryO at h
  split at h
  · split at h
    · rename_i hc
      simp only [Bool.and_eq_true, decide_eq_true_eq] at hc
      obtain ⟨⟨hcm, ho⟩, hgl⟩ := hc
      split at h
      · rename_i h2 h3
        cases h
        exact ⟨_, _, _, _, _, _, _, rfl, rfl, rfl, hcm, ho, hgl, h2, h3, rfl⟩
      · cases h
    · cases h
  · cases h
theorem cTry_eq {N : List Str} {f g : List Stmt → Option Ss} {tp : Md} {sc : Scope} {body : List Stmt} {hs : List ExceptHandler} {oe fb : List Stmt} {m : S} (h : cTry N f g tp sc body hs oe fb = some m) :
    ∃ x np y b₀ suite p i a b, hs = [.ExceptHandler (some (.Name x np)) (some y) (b₀ :: suite) p] ∧ oe = [] ∧ fb = [] ∧ tp.c = true ∧ okName x = true ∧ glB sc x = true ∧ sc.names.lookup y = some .local ∧ ixOf N y = some i ∧ f body = some a ∧ g (b₀ :: suite) = some b ∧ m = .tryAs x i a b := by
  unfold cTry at h
  split at h
  · split at h
    · rename_i hc
      simp only [Bool.and_eq_true, decide_eq_true_eq] at hc
      obtain ⟨⟨⟨hcm, ho⟩, hgl⟩, hly⟩ := hc
      split at h
      · rename_i h1 h2 h3
        cases h
        exact ⟨_, _, _, _, _, _, _, _, _, rfl, rfl, rfl, hcm, ho, hgl, hly, h1, h2, h3, rfl⟩
      · cases h
    · cases h
  · cases h
mutual
def cS (N : List Str) : Nat → Md → Scope → Stmt → Option S
  | 0, _, _, _ => none
  | n + 1, tp, sc, st => match st with
    | .Assign [tg] e _ => (match tg with
      | .Name x px => if compB e then (if lcB sc x px e && tp.c then (match ixOf N x, cE N n tp sc e with | some i, some v => some (.set i v) | _, _ => none)
          else if decide (sc.names.lookup x = some .cell) && tp.c then (match nmIx N sc true tg, cE N n tp sc e with | some i, some v => some (.set i v) | _, _ => none) else none)
          else (match nmIx N sc true tg, cE N n tp sc e with | some i, some v => some (.set i v) | _, _ => none)
      | .Attribute o f _ => (match cE N n tp sc o, cE N n tp sc e with | some a, some v => some (.setFld a f v) | _, _ => none)
      | .Subscript o i _ => if slB i then none else (match cE N n tp sc o, cE N n tp sc i, cE N n tp sc e with | some a, some b, some v => some (.setSub a b v) | _, _, _ => none)
      | .Tuple ts _ _ => (match e with
        | .Tuple vs _ _ => (match ts, vs with
          | [.Name x px, .Name y py], [a, b] => if parB sc x y px py [a, b] && tp.c then (match ixOf N x, ixOf N y, cE N n tp sc a, cE N n tp sc b with | some i, some j, some v, some w => some (.par i j v w) | _, _, _, _ => none)
              else if unpB sc ts vs && tp.c then (match cTts (cE N n tp sc) (nmIx N sc true) ts, cE N n tp sc e with | some t, some v => some (.setTup t v) | _, _ => none) else none
          | [.Name x px, .Name y py, .Name z pz], [a, b, c] => if par3B sc x y z px py pz [a, b, c] && tp.c then (match ixOf N x, ixOf N y, ixOf N z, cE N n tp sc a, cE N n tp sc b, cE N n tp sc c with | some i, some j, some l, some v, some w, some u => some (.par3 i j l v w u) | _, _, _, _, _, _ => none)
              else if unpB sc ts vs && tp.c then (match cTts (cE N n tp sc) (nmIx N sc true) ts, cE N n tp sc e with | some t, some v => some (.setTup t v) | _, _ => none) else none
          | _, _ => if unpB sc ts vs && tp.c then (match cTts (cE N n tp sc) (nmIx N sc true) ts, cE N n tp sc e with | some t, some v => some (.setTup t v) | _, _ => none) else none)
        | _ => if tp.c then (match cStar (nmIx N sc true) ts, cE N n tp sc e with
          | some (i, j), some v => some (.unpS i j v)
          | none, some v => (match cTts (cE N n tp sc) (nmIx N sc true) ts with | some t => some (.setTup t v) | _ => none)
          | _, _ => none) else none)
      | _ => none)
    | .AugAssign tg op e _ => (match tg with
      | .Name _ _ => (match nmIx N sc true tg, cE N n tp sc e with | some i, some v => some (.aug i op v) | _, _ => none)
      | .Attribute o f _ => (match cE N n tp sc o, cE N n tp sc e with | some a, some v => some (.augFld a f op v) | _, _ => none)
      | _ => none)
    | .Return e _ => (match e with | some e => (match cRetC N (cE N n tp sc) (fun s => cE N n .no s) tp sc e with | some m => some m | none => (cE N n tp sc e).map .ret) | none => some .retN)
    | .Expr e _ => if strB e then some .doc else if compB e then none else (cE N n tp sc e).map .exp
    | .Pass _ => some .pass
    | .Break _ => some .brk
    | .Continue _ => some .cont
    | .If t a b _ => (match cT N n tp sc t, cSs N n tp sc a, cSs N n tp sc b with | some x, some y, some z => some (.ifs x y z) | _, _, _ => none)
    | .While t a [] _ => (match cT N n tp sc t, cSs N n tp sc a with | some x, some y => some (.whl x y) | _, _ => none)
    | .For tg it a [] _ => if !tp.c then none else (match cTg N sc true tg, cI (cE N n tp sc) sc tg it, cSs N n tp sc a with | some g, some i, some b => some (.fors g i b) | _, _, _ => none)
    | .Try body hs oe fb _ => (match cTry N (cSs N n .no sc) (cSs N n .qt sc) tp sc body hs oe fb with | some m => some m | none => cTryO (cSs N n .no sc) (cSs N n .qt sc) tp sc body hs oe fb)
    | .Delete [.Subscript o i _] _ => if slB i then none else (match cE N n tp sc o, cE N n tp sc i with | some a, some b => some (.del a b) | _, _ => none)
    | .Raise e c _ => if !tp.c then (match e with | none => some .dead | some _ => none) else (match cRaise sc e c with | some m => some m | none => (match cRaiseV (cE N n tp sc) sc e c with | some m => some m | none => some .dead))
    | _ => none
def cSs (N : List Str) : Nat → Md → Scope → List Stmt → Option Ss
  | 0, _, _, _ => none
  | n + 1, tp, sc, sts => match sts with
    | [] => some .nil
    | st :: r => (match cS N n tp sc st, cSs N n tp sc r with | some a, some b => some (.cons a b) | _, _ => none)
end
section
variable {X : Cx} {ta : List (Addr × Str)} {mm : MT} {xc : XC} {tp : Md}
theorem swaps_at {e o : Expr} {f : Str} {p : Pos} {l : Nat} {env : Env} : swapsWith e (some (.Attribute o f p)) l env = pure false := by cases e <;> rfl
theorem swaps_cell {e : Expr} {x : Str} {p : Pos} {l : Nat} {env : Env} (h : env.scope.names.lookup x = some .cell) : swapsWith e (some (.Name x p)) l env = pure false := by
  have hk : (env.kindOf x == some .local) = false := by
    show (env.scope.names.lookup x == some NameKind.local) = false
    rw [h] <;> rfl
  cases e <;> first | rfl | (unfold swapsWith; simp [hk])
theorem sole_tup {e : Expr} {es : List Expr} {k : Nat} {p : Pos} {l : Nat} {env : Env} : swapsWithSole [.Tuple es k p] e l env = pure false := by cases e <;> rfl
theorem sole_sub {e o i : Expr} {p : Pos} {l : Nat} {env : Env} : swapsWithSole [.Subscript o i p] e l env = pure false := by cases e <;> rfl
theorem stores_sub {e o i : Expr} {p : Pos} {env : Env} : swappedStores [.Subscript o i p] e env = pure none := by cases e <;> rfl
theorem stores_nt {e : Expr} {ts : List Expr} {k : Nat} {p : Pos} {env : Env} (h : tupB e = false) : swappedStores [.Tuple ts k p] e env = pure none := by
  cases e <;> first | rfl | cases h
theorem fm_short {f : Expr → Option Str} {e : Expr} : ∀ {ts : List Expr}, e ∈ ts → f e = none → ((ts.filterMap f).length != ts.length) = true := by
  have lt : ∀ {ts : List Expr}, e ∈ ts → f e = none → (ts.filterMap f).length < ts.length := by
    intro ts
    induction ts with
    | nil => intro he; cases he
    | cons a r ih =>
      intro he hn
      rcases List.mem_cons.mp he with rfl | hm
      · rw [List.filterMap_cons_none hn]
        exact Nat.lt_succ_of_le (List.length_filterMap_le _ _)
      · have := ih hm hn
        rw [List.filterMap_cons]
        split
        · exact Nat.lt_succ_of_lt this
        · simpa using this
  intro ts he hn
  have := lt he hn
  simp only [bne_iff_ne, ne_eq]
  omega
theorem stores_unp {ts vs : List Expr} {k k2 : Nat} {p p2 : Pos} {env : Env} (h : unpB env.scope ts vs = true) : swappedStores [.Tuple ts k p] (.Tuple vs k2 p2) env = pure none := by
  unfold unpB at h
  simp only [Bool.or_eq_true] at h
  unfold swappedStores
  simp only [pure_bind]
  rcases h with (h | h) | h
  · have e : (!(ts.length == 2 || ts.length == 3) || vs.length != ts.length || env.blockKind != .function) = true := by rw [h]; rfl
    rw [if_pos e] <;> rfl
  · split
    · rfl
    · split
      · rfl
      · obtain ⟨e, he, hb⟩ := List.any_eq_true.mp h
        rw [if_pos]
        simp only [Bool.or_eq_true]
        refine .inl (fm_short he ?_)
        cases e with
        | Name x q =>
          simp only [decide_eq_true_eq] at hb
          have : (env.kindOf x == some .local) = false := by
            show (env.scope.names.lookup x == some NameKind.local) = false
            simpa using hb
          simp [this]
        | _ => rfl
  · split
    · rfl
    · split
      · rfl
      · split
        · rfl
        · first | rfl | (rw [if_pos h] <;> rfl)
theorem stores_par {x y : Str} {px py p p2 : Pos} {a b : Expr} {k k2 : Nat} {env : Env} (h : parB env.scope x y px py [a, b] = true) : swappedStores [.Tuple [.Name x px, .Name y py] k p] (.Tuple [a, b] k2 p2) env = pure (some [x, y]) := by
  unfold parB at h
  simp only [Bool.and_eq_true, decide_eq_true_eq, Bool.not_eq_true'] at h
  obtain ⟨⟨⟨⟨⟨⟨⟨h1, h2⟩, h3⟩, h4⟩, h5⟩, h6⟩, h7⟩, h8⟩ := h
  have hbk : env.blockKind = .function := by unfold Env.blockKind; rw [h1]; rfl
  have kx : env.kindOf x = some .local := h2
  have ky : env.kindOf y = some .local := h3
  have hst : ([a, b].any fun | .Starred .. => true | _ => false) = false := by
    simp only [List.all_cons, List.all_nil, Bool.and_true, Bool.and_eq_true] at h6
    obtain ⟨ha, hb⟩ := h6
    have ns : ∀ e : Expr, nsB e = true → (match e with | .Starred .. => true | _ => false) = false := fun e he => by cases e <;> first | rfl | cases he
    rw [List.any_cons, List.any_cons, List.any_nil, ns a ha, ns b hb] <;> rfl
  have hxy : x ≠ y := by simpa using h5
  have he : [x, y].eraseDups = [x, y] := by
    simp [List.eraseDups_cons, Ne.symm hxy]
  unfold swappedStores
  simp only [pure_bind]
  rw [if_neg (by simp [hbk])]
  split
  · rename_i hh
    exact absurd hh (Bool.eq_false_iff.mp hst)
  simp only [List.filterMap_cons, List.filterMap_nil, List.head?_cons, Option.map_some, Option.getD_some, Expr.pos, kx, ky, h4]
  simp [he, h7, h8]
theorem stores_par3 {x y z : Str} {px py pz p p2 : Pos} {a b c : Expr} {k k2 : Nat} {env : Env} (h : par3B env.scope x y z px py pz [a, b, c] = true) : swappedStores [.Tuple [.Name x px, .Name y py, .Name z pz] k p] (.Tuple [a, b, c] k2 p2) env = pure (some [x, y, z]) := by
  unfold par3B at h
  simp only [Bool.and_eq_true, decide_eq_true_eq, Bool.not_eq_true'] at h
  obtain ⟨⟨⟨⟨⟨⟨⟨⟨⟨⟨⟨h1, h2⟩, h3⟩, g3⟩, h4⟩, g4⟩, h5⟩, g5⟩, i5⟩, h6⟩, h7⟩, h8⟩ := h
  have hbk : env.blockKind = .function := by unfold Env.blockKind; rw [h1]; rfl
  have kx : env.kindOf x = some .local := h2
  have ky : env.kindOf y = some .local := h3
  have kz : env.kindOf z = some .local := g3
  have hst : ([a, b, c].any fun | .Starred .. => true | _ => false) = false := by
    simp only [List.all_cons, List.all_nil, Bool.and_true, Bool.and_eq_true] at h6
    obtain ⟨ha, hb, hc⟩ := h6
    have ns : ∀ e : Expr, nsB e = true → (match e with | .Starred .. => true | _ => false) = false := fun e he => by cases e <;> first | rfl | cases he
    rw [List.any_cons, List.any_cons, List.any_cons, List.any_nil, ns a ha, ns b hb, ns c hc] <;> rfl
  have hxy : x ≠ y := by simpa using h5
  have hxz : x ≠ z := by simpa using g5
  have hyz : y ≠ z := by simpa using i5
  have he : [x, y, z].eraseDups = [x, y, z] := by
    simp [List.eraseDups_cons, Ne.symm hxy, Ne.symm hxz, Ne.symm hyz]
  unfold swappedStores
  simp only [pure_bind]
  rw [if_neg (by simp [hbk])]
  split
  · rename_i hh
    exact absurd hh (Bool.eq_false_iff.mp hst)
  simp only [List.filterMap_cons, List.filterMap_nil, List.head?_cons, Option.map_some, Option.getD_some, Expr.pos, kx, ky, kz, h4, ← g4]
  simp [he, h7, h8, h4, ← g4]
theorem p_setd (hu : X.A.units + 65 < cLine) : PSet X (fun x y v H Q => ∃ p H4, x = .ref p ∧ DPut H p y v H4 ∧ Q H4) := by
  intro pins s σ H o i v ov iv u Q I ro ri rv q
  obtain ⟨p, H4, rfl, g, q⟩ := q
  obtain rfl : ov = Value.ref p := ro
  exact d_setItem (by omega) I g ri rv fun s' I' => ⟨H4, I', q⟩
theorem PSetor {t t' : TSet} (h : PSet X t) (h' : PSet X t') : PSet X (fun x y v H Q => t x y v H Q ∨ t' x y v H Q) := fun pins s σ H o i v ov iv u Q I ro ri rv q =>
  q.elim (h pins s σ H o i v ov iv u Q I ro ri rv) (h' pins s σ H o i v ov iv u Q I ro ri rv)
theorem p_aug (op : Operator) : PIp X op (rAug op) := by
  intro pins s σ H x y v u Q I rx ry q
  cases op
  case Add =>
    rcases q with q | q
    · exact ip_add pins s σ H x y v u Q I rx ry q
    · exact iop_add_str pins s σ H x y v u Q I rx ry q
  case Sub => exact ip_sub pins s σ H x y v u Q I rx ry q
  all_goals exact q.elim
theorem p_augF (op : Operator) : InOp X op (rAugF op) := by
  cases op
  case Add => exact in_add
  case Sub => exact in_sub
  all_goals
    intro pins s σ H x y v u Q I rx ry q
    exact q.elim
theorem asg_sub {o i : Expr} {pos : Pos} {env : Env} (h : slB i = false) : ∀ v, assign (.Subscript o i pos) env v = (do
      let ov ← holding [v] (eval o env)
      let iv ← holding [v, ov] (eval i env)
      standAt pos
      holding [v, ov, iv] (setItem ov iv v)
      release [v, ov, iv] []) := fun v => by
  cases i <;> first | rfl | cases h
/-- a field as a target -/
def gFld (K : PySem.W.Frag) (f : Str) (ta : TE) : TG := fun v σ H Q => ta σ H fun x H2 => ∃ p C dx fs, x = .ref p ∧ H2 p = some (.ins C dx fs) ∧ Cls K C ∧ NoAttr K C f ∧ fs.length < 1000 ∧ Q σ (upd H2 p (.ins C dx (putF f v fs)))
theorem pg_fld {o : Expr} {f : Str} {p : Pos} {ta : TE} (h : PE X o ta) : PG X (.Attribute o f p) (gFld X.K f ta) := by
  refine ⟨fun pins s σ H v u Q I r q => ?_⟩
  rw [arm_assign_Attribute]
  refine wpAny_bind (wpAny_holding (thn (h.run pins s σ H _ I q) fun ov s1 ⟨x, H1, I1, rx, a, C, dx, fs, ex, ea, c, n, l, q1⟩ => ?_))
  subst ex
  obtain rfl : ov = Value.ref a := rx
  refine wpAny_bind (wpAny_standAt (wpAny_bind (wpAny_holding (setattr_ok I1 ea c n l r fun s2 I2 => ?_))))
  exact wpAny_release ⟨σ, _, I2, q1⟩
theorem pgs_tts {k : Nat} {sc : Scope} {N : List Str} {W : WX} (g : Gd ta mm xc tp k sc N W X) (T : TgOk X sc true) {f : Expr → Option E} (hf : ∀ e m, f e = some m → PE X e (wE (rx X ta mm xc) k m W)) : ∀ {es : List Expr} {ts : Tts}, cTts f (nmIx X.N sc true) es = some ts →
    PGs X es (fun vs σ H Q => vs.length = ts.len ∧ wTts (rx X ta mm xc) k ts W vs σ H Q) ∧ (assignEach es X.env).length = ts.len ∧ (assignEach es X.env).findIdx? (·.1) = none
  | [], ts, h => by
    unfold cTts at h
    cases h
    refine ⟨⟨fun pins s σ H vs us Q I r q => ?_⟩, rfl, rfl⟩
    obtain ⟨q1, q2⟩ := q
    cases vs with
    | nil => exact pgs_nil.run pins s σ H [] us Q I r ⟨rfl, q2⟩
    | cons _ _ => cases q1
  | e :: r, ts, h => by
    have name : ∀ {e : Expr}, (match nmIx X.N sc true e, cTts f (nmIx X.N sc true) r with | some i, some ts => some (Tts.nm i ts) | _, _ => none) = some ts →
        PGs X (e :: r) (fun vs σ H Q => vs.length = ts.len ∧ wTts (rx X ta mm xc) k ts W vs σ H Q) ∧ (assignEach (e :: r) X.env).length = ts.len ∧ (assignEach (e :: r) X.env).findIdx? (·.1) = none := by
      intro e h
      split at h
      · rename_i i ts' h1 h2
        cases h
        obtain ⟨p1, p2, p3⟩ := pgs_tts g T hf h2
        obtain ⟨x, p, rfl, _, _⟩ := nmIx_get h1
        refine ⟨⟨fun pins s σ H vs us Q I r q => ?_⟩, by show ((assignEach _ X.env).length + 1) = _; rw [p2] <;> rfl, by show ((false, _) :: assignEach _ X.env).findIdx? (·.1) = none; rw [List.findIdx?_cons, p3] <;> rfl⟩
        obtain ⟨q1, q2⟩ := q
        cases vs with
        | nil => cases q1
        | cons v vs => exact (pgs_cons (pg_nm T g.nd h1) p1).run pins s σ H _ us Q I r ⟨v, vs, rfl, by simpa [Tts.len] using q1, q2⟩
      · cases h
    cases e with
    | Subscript a i p =>
      unfold cTts at h
      split at h
      · cases h
      · rename_i hs
        split at h
        · rename_i x y ts' h1 h2 h3
          cases h
          obtain ⟨p1, p2, p3⟩ := pgs_tts g T hf h3
          have hg : PG X (.Subscript a i p) (gSub (fun σ H S => wE (rx X ta mm xc) k x W σ H S) (fun σ H S => wE (rx X ta mm xc) k y W σ H S) (fun x y v H Q => rSetL x y v H Q ∨ ∃ p H4, x = .ref p ∧ DPut H p y v H4 ∧ Q H4)) :=
            pg_sub (hf _ _ h1) (hf _ _ h2) (PSetor set_list (p_setd (g.u65))) (asg_sub (by simpa using hs))
          refine ⟨⟨fun pins s σ H vs us Q I r q => ?_⟩, by show ((assignEach _ X.env).length + 1) = _; rw [p2] <;> rfl, by show ((false, _) :: assignEach _ X.env).findIdx? (·.1) = none; rw [List.findIdx?_cons, p3] <;> rfl⟩
          obtain ⟨q1, q2⟩ := q
          cases vs with
          | nil => cases q1
          | cons v vs =>
            have hl : vs.length = ts'.len := by simpa [Tts.len] using q1
            refine (pgs_cons hg p1).run pins s σ H _ us Q I r ⟨v, vs, rfl, ?_⟩
            have q2 : wE (rx X ta mm xc) k x W σ H fun x H2 => wE (rx X ta mm xc) k y W σ H2 fun y H3 => rSetL x y v H3 (fun H4 => wTts (rx X ta mm xc) k ts' W vs σ H4 Q) ∨ ∃ p H4, x = .ref p ∧ DPut H3 p y v H4 ∧ wTts (rx X ta mm xc) k ts' W vs σ H4 Q := q2
            simp only [hl, true_and]
            exact q2
        · cases h
    | Attribute a fl p =>
      unfold cTts at h
      split at h
      · rename_i x ts' h1 h3
        cases h
        obtain ⟨p1, p2, p3⟩ := pgs_tts g T hf h3
        refine ⟨⟨fun pins s σ H vs us Q I r q => ?_⟩, by show ((assignEach _ X.env).length + 1) = _; rw [p2] <;> rfl, by show ((false, _) :: assignEach _ X.env).findIdx? (·.1) = none; rw [List.findIdx?_cons, p3] <;> rfl⟩
        obtain ⟨q1, q2⟩ := q
        cases vs with
        | nil => cases q1
        | cons v vs =>
          have hl : vs.length = ts'.len := by simpa [Tts.len] using q1
          refine (pgs_cons (pg_fld (hf _ _ h1)) p1).run pins s σ H _ us Q I r ⟨v, vs, rfl, ?_⟩
          have q2 : wE (rx X ta mm xc) k x W σ H fun x H2 => ∃ p C dx fs, x = .ref p ∧ H2 p = some (.ins C dx fs) ∧ Cls X.K C ∧ NoAttr X.K C fl ∧ fs.length < 1000 ∧ wTts (rx X ta mm xc) k ts' W vs σ (upd H2 p (.ins C dx (putF fl v fs))) Q := q2
          show wE (rx X ta mm xc) k x W σ H fun x H2 => ∃ p C dx fs, x = .ref p ∧ H2 p = some (.ins C dx fs) ∧ Cls X.K C ∧ NoAttr X.K C fl ∧ fs.length < 1000 ∧ (vs.length = ts'.len ∧ wTts (rx X ta mm xc) k ts' W vs σ (upd H2 p (.ins C dx (putF fl v fs))) Q)
          simp only [hl, true_and]
          exact q2
      · cases h
    | _ =>
      unfold cTts at h
      exact name h
theorem pg_tts {k : Nat} {sc : Scope} {N : List Str} {W : WX} (g : Gd ta mm xc tp k sc N W X) (hcm : X.calm = true) (T : TgOk X sc true) {f : Expr → Option E} (hf : ∀ e m, f e = some m → PE X e (wE (rx X ta mm xc) k m W)) {es : List Expr} {ts : Tts} {j : Nat} {pos : Pos} (h : cTts f (nmIx X.N sc true) es = some ts) :
    PG X (.Tuple es j pos) (fun v σ H Q => ∃ a xs, v = .ref a ∧ (SqT X.K H a xs ∨ SqL X.K H a xs) ∧ xs.length = ts.len ∧ wTts (rx X ta mm xc) k ts W xs σ H Q) := by
  obtain ⟨p1, p2, p3⟩ := pgs_tts g T hf h
  refine ⟨fun pins s σ H v u Q I r q => ?_⟩
  obtain ⟨a, xs, rfl, ht, hl, q⟩ := q
  rcases ht with ht | ht
  · exact (pg_tup (n := ts.len) hcm p1 p2 p3).run pins s σ H _ u Q I r ⟨a, xs, rfl, ht, hl, hl, q⟩
  · exact (pg_lst (n := ts.len) hcm p1 p2 p3).run pins s σ H _ u Q I r ⟨a, xs, rfl, ht, hl, hl, q⟩
/-- x, *y = a list -/
theorem pg_star {sc0 : Scope} {i j : Nat} {ea eb : Expr} {p2 pos : Pos} {k : Nat} (T : TgOk X sc0 true) (nd : X.N.Nodup) (hc : X.calm = true) (h1 : nmIx X.N sc0 true ea = some i) (h2 : nmIx X.N sc0 true eb = some j) :
    PG X (.Tuple [ea, .Starred eb p2] k pos) (fun v σ H Q => ∃ p x rest, v = .ref p ∧ SqL X.K H p (x :: rest) ∧ ∀ q, H q = none → Q ((σ.set i (some x)).set j (some (.ref q))) (upd H q (.lst rest))) := by
  refine ⟨fun pins s σ H v u Q I r q => ?_⟩
  obtain ⟨p, x, rest, rfl, hs, q⟩ := q
  obtain rfl : u = Value.ref p := r
  obtain ⟨its, rv, pl, hz⟩ := I.list hs
  cases rv with
  | @cons _ u0 _ ur rx rr =>
    obtain ⟨xx, xp, rfl, _⟩ := nmIx_get h1
    obtain ⟨yy, yp, rfl, _⟩ := nmIx_get h2
    rw [PyProof.Rows.assign_Tuple]
    refine wpAny_bind (wpAny_standAt ?_)
    unfold unpack
    have e0 : assignEach [Expr.Name xx xp, .Starred (.Name yy yp) p2] X.env = [(false, assign (.Name xx xp) X.env), (true, assign (.Name yy yp) X.env)] := rfl
    rw [e0]
    have lr : rest.length = ur.length := rr.length
    refine wpAny_bind (wpAny_holding (unpack_star (I.ok.hd hc) pl.isList (by rw [← lr]; simpa using hz) fun h' tk gs hgs kp => ?_))
    subst hgs
    have I0 : Inv X pins σ H { s with heap := h', toks := tk } := I.kept (t' := tk) kp
    have hn : H h'.objs.size = none := I0.hok.fresh (Nat.le_refl _)
    have I1 : Inv X pins σ (upd H h'.objs.size (.lst rest)) { s with heap := h'.push ({ cls := .type "list", data := .seq ur.toArray } : Obj), toks := tk } :=
      I0.laid (t' := tk) (fun b o e => Heap.get?_push_of_some _ e) (Nat.le_refl _) ⟨by simpa using Nat.le_of_succ_le hz, ur, 0, rr, Heap.get?_push_size _ rfl⟩
    refine (pgs_cons (pg_nm T nd h1) (pgs_cons (pg_nm T nd h2) pgs_nil)).run pins _ σ _ [x, .ref h'.objs.size] [u0, .ref h'.objs.size] Q I1 (.cons rx (.cons rfl .nil)) ?_
    exact ⟨x, [.ref h'.objs.size], rfl, .ref h'.objs.size, [], rfl, rfl, q _ hn⟩
/-- a def's own frame runs -/
structure DefX (X : Cx) : Prop where
  fn : ∀ x, X.fn x = true
  stk : X.stack = X.env :: X.outer
  frm : X.env.frame = some X.env.locals
theorem isH_suite {X : Cx} {a : Addr} {oe : Obj} {cls : Value} {d : Option Addr} {pn : List (Addr × Obj)} (hz : Zc cls d oe) (hf : ∃ vs, oe.data = .fields vs) : CallR (X.suite a ((a, oe) :: pn)) (.builtin "isinstance") (rIsH X.K (some (a, cls, d))) := by
  intro pins s σ H xs us Q I r q
  obtain ⟨a', C, d', e, hd, hc, q⟩ := q
  cases e
  rcases hd with rfl | ⟨dd, fs, rfl, hd⟩
  · exact call_isE hc hz hf pins s σ H xs us Q I r q
  · obtain ⟨c, cv, b, rfl, hcv, e, q⟩ := q
    cases r with
    | cons rx rr =>
      cases rr with
      | cons rt rr =>
        cases rr
        cases rx
        have ec := hcv _ rt
        subst ec
        obtain ⟨hget, _⟩ := I.pin (a, oe) (List.mem_append.mpr (.inl List.mem_cons_self))
        obtain ⟨vs, hv⟩ := hf
        have hx : ObjOk X.prog X.w H s.heap dd (.xd fs) := I.hok dd _ hd
        obtain ⟨mA, hns, _⟩ := hx
        obtain ⟨od, ho, _⟩ := lookIn_ns hns
        have J : PySem.W.InstAt s.heap a oe C (some od) := ⟨hget, hz.1, by unfold PySem.W.notCls; rw [hv] <;> rfl, by rw [hz.2]; exact ho⟩
        exact PySem.W.kia_one (kitx_d (dd := dd) hc) I.kIn ⟨od, J⟩ e (fun z => nomatch z) fun tk => ⟨.bl b, H, I.kept (t' := tk) fun _ _ z => z, rfl, q⟩
/-- THE READING HOLDS: of statements -/
theorem sS_all (ta : List (Addr × Str)) (mm : MT) (N : List Str) : ∀ n, (∀ (xc : XC) (tp : Md) (sc : Scope) (st : Stmt) (m : S), cS N n tp sc st = some m → ∀ (k : Nat) (W : WX) (X : Cx), Gd ta mm xc tp k sc N W X → DefX X → PS X st (fun D σ H => wS (rx X ta mm xc) k m W D σ H)) ∧
    (∀ (xc : XC) (tp : Md) (sc : Scope) (st : List Stmt) (m : Ss), cSs N n tp sc st = some m → ∀ (k : Nat) (W : WX) (X : Cx), Gd ta mm xc tp k sc N W X → DefX X → PSs X st (fun D σ H => wSs (rx X ta mm xc) k m W D σ H)) := by
  intro n
  induction n with
  | zero => exact ⟨fun _ _ _ _ _ h => (by unfold cS at h; cases h), fun _ _ _ _ _ h => (by unfold cSs at h; cases h)⟩
  | succ n ih =>
    obtain ⟨ihS, ihB⟩ := ih
    refine ⟨fun xc tp sc st m h k W X g dx => ?_, fun xc tp sc st m h k W X g dx => ?_⟩
    all_goals have fn := dx.fn
    · have hf : ∀ e m, cE N n tp sc e = some m → PE X e (wE (rx X ta mm xc) k m W) := fun e m h => (sE_all ta xc N n).1 tp sc e m h k W X g
      have hf0 : ∀ e m, cE N n tp sc e = some m → PE X e (wE (rx X ta mm xc) k m W0) := fun e m h => (sE_all ta xc N n).1 tp sc e m h k W0 X g.w0
      have ht : ∀ e m, cT N n tp sc e = some m → PT X e (wT (rx X ta mm xc) k m W) := fun e m h => ((sE_all ta xc N n).2 tp sc e m h k W X g).1
      have T : TgOk X sc true := fun x => by rw [g.sc]; exact ⟨fun h => h, fun _ h => ⟨h, fn x⟩⟩
      have hN : X.N = N := g.N
      have hu := g.u65
      have nm : ∀ {e : Expr} {i : Nat}, nmIx N sc true e = some i → ∃ x p, e = .Name x p ∧ X.N[i]? = some x ∧ Loc X.env.scope x := fun {e i} h => by
        obtain ⟨x, p, he, h1, h2⟩ := nmIx_get h
        refine ⟨x, p, he, by rw [hN]; exact h1, ?_⟩
        rw [g.sc]
        rcases h2 with h2 | ⟨_, h2⟩
        · exact .inl h2
        · exact .inr h2
      have tts : ∀ {ts : List Expr} {e : Expr} {t : Tts} {v : E} {j : Nat} {p pos : Pos}, tp.c = true → cTts (cE N n tp sc) (nmIx N sc true) ts = some t → cE N n tp sc e = some v → swappedStores [.Tuple ts j p] e X.env = pure none →
          PS X (.Assign [.Tuple ts j p] e pos) (fun D σ H => wS (rx X ta mm xc) k (.setTup t v) W D σ H) := fun {ts e t v j p pos} hcm h1 h2 h3 => by
        exact ps_asg (hf _ _ h2) (pg_tts g (g.calm hcm) T hf (by rw [hN]; exact h1)) sole_tup h3
      unfold cS at h
      cases st with
      | Assign tgs e pos =>
        cases tgs with
        | nil => cases h
        | cons tg r =>
          cases r with
          | cons _ _ => cases h
          | nil =>
            dsimp only at h
            cases tg with
            | Name x px =>
              dsimp only at h
              split at h
              · split at h
                · rename_i hl
                  split at h
                  · rename_i i v h1 h2
                    cases h
                    obtain ⟨hl, _⟩ := Bool.and_eq_true_iff.mp hl
                    unfold lcB at hl
                    cases e with
                    | ListComp elt gens scope p =>
                      simp only [Bool.and_eq_true, decide_eq_true_eq, Bool.not_eq_true'] at hl
                      obtain ⟨⟨⟨l1, l2⟩, l3⟩, l4⟩ := hl
                      have l2' : X.env.scope.names.lookup x = some .local := by rw [g.sc]; exact l2
                      -- as the expression's own case
                      cases n with
                      | zero => unfold cE at h2; cases h2
                      | succ n =>
                        unfold cE at h2
                        rcases gens with _ | ⟨⟨tg, iter, ifs, asy⟩, _ | ⟨_, _⟩⟩
                        · cases h2
                        · dsimp only at h2
                          split at h2
                          · rename_i hz
                            obtain ⟨htl, _⟩ := Bool.and_eq_true_iff.mp hz
                            split at h2
                            · rename_i hc
                              simp only [Bool.and_eq_true, decide_eq_true_eq, Bool.not_eq_true'] at hc
                              obtain ⟨⟨⟨hasy, hblk⟩, hset⟩, hcm⟩ := hc
                              subst hasy
                              split at h2
                              · rename_i it gg tt x' q1 q2 q3 q4
                                cases h2
                                have ok : BlkOk X.N X.env.scope scope (ownOf N (tgNames tg)) := by
                                  rw [g.N, g.sc]
                                  exact blkOk_by hblk
                                have one : ∀ (W' : WX) (g : Gd ta mm xc tp k sc N W' X), PS X (.Assign [.Name x px] (.ListComp elt [⟨tg, iter, ifs, 0⟩] scope p) pos) (tAsg (fun σ => tLc (fun σ H S => wI (rx X ta mm xc) k it W' σ H S) (gTg (rx X ta mm xc).K gg) (fun σ H S => wT (rx X ta mm xc) k tt W0 σ H S) (fun σ' H S => ∀ M' : MT, (∀ f fz φ, mm f fz φ → M' f fz fun j _ cz => φ j σ cz) → wE { rx X ta mm xc with M := M' } k x' W0 σ' H S) ((ownOf N (tgNames tg)).map (·.2)) σ) (gName i)) := fun W' g =>
                                  ps_setLcZ (te := fun σ σ' H S => ∀ M' : MT, (∀ f fz φ, mm f fz φ → M' f fz fun j _ cz => φ j σ cz) → wE { rx X ta mm xc with M := M' } k x' W0 σ' H S) (g.calm hcm) g.nd (by rw [hN]; exact ixOf_get h1) l2' (sw_true (by rw [g.sc]; exact l1) l2' l3 l4) (pi_of g (fun e m h => (sE_all ta xc N n).1 tp sc e m h k W' X g) q1) ok (fun pins σ H s fp I hfp => ⟨pg_tg (tg_blk s H _ _ fp) g.nd (g.calm hcm) (by rw [show (bCx X s H scope fp).N = N from g.N]; exact q2), (by
                                    have gb := g.blk hcm scope s H s.heap.objs.size (bCells X s scope) fp
                                    split at q3
                                    · cases q3
                                      exact pts_nil
                                    · exact pts_one ((sE_all ta xc N n).2 _ _ _ _ q3 k W0 _ gb).1
                                    · cases q3), PEi ((sE_all ta xc N n).1 _ _ _ _ q4 k W0 _ (g.blkz htl hcm I ok hfp)) fun σ' H Q q => q _ fun f fz φ hM => .inr ⟨φ, by rw [((g.lam (Md.lz htl)).2.1 htl).2] at hM; exact hM, rfl⟩⟩) (fold_ns hset)
                                exact PSor (one W g) (ps_lock (one W0 g.w0))
                              · cases h2
                            · cases h2
                          · split at h2
                            · rename_i hc
                              simp only [Bool.and_eq_true, decide_eq_true_eq, Bool.not_eq_true'] at hc
                              obtain ⟨⟨⟨hasy, hblk⟩, hset⟩, hcm⟩ := hc
                              subst hasy
                              split at h2
                              · rename_i it gg tt x' q1 q2 q3 q4
                                cases h2
                                have ok : BlkOk X.N X.env.scope scope (ownOf N (tgNames tg)) := by
                                  rw [g.N, g.sc]
                                  exact blkOk_by hblk
                                have one : ∀ (W' : WX) (g : Gd ta mm xc tp k sc N W' X), PS X (.Assign [.Name x px] (.ListComp elt [⟨tg, iter, ifs, 0⟩] scope p) pos) (tAsg (tLc (fun σ H S => wI (rx X ta mm xc) k it W' σ H S) (gTg (rx X ta mm xc).K gg) (fun σ H S => wT (rx X ta mm xc) k tt W0 σ H S) (fun σ H S => wE (rx X ta mm xc) k x' W0 σ H S) ((ownOf N (tgNames tg)).map (·.2))) (gName i)) := fun W' g => by
                                  refine ps_setLc (g.calm hcm) g.nd (by rw [hN]; exact ixOf_get h1) l2' (sw_true (by rw [g.sc]; exact l1) l2' l3 l4) (pi_of g (fun e m h => (sE_all ta xc N n).1 tp sc e m h k W' X g) q1) ok (fun s H C cl fp => ?_) (fun s H C cl fp => ?_) (fun s H C cl fp => ?_) (fold_ns hset)
                                  · exact pg_tg (tg_blk s H C cl fp) g.nd (g.calm hcm) (by rw [show (X.blk s H scope (compEnvC scope cl C X.env) fp).N = N from g.N]; exact q2)
                                  · have gb := g.blk hcm scope s H C cl fp
                                    split at q3
                                    · cases q3
                                      exact pts_nil
                                    · exact pts_one ((sE_all ta xc N n).2 _ _ _ _ q3 k W0 _ gb).1
                                    · cases q3
                                  · exact (sE_all ta xc N n).1 _ _ _ _ q4 k W0 _ (g.blk hcm scope s H C cl fp)
                                exact PSor (one W g) (ps_lock (one W0 g.w0))
                              · cases h2
                            · cases h2
                        · cases h2
                    | _ => cases hl
                  · cases h
                · split at h
                  · rename_i hl
                    simp only [Bool.and_eq_true, decide_eq_true_eq] at hl
                    split at h
                    · rename_i i v h1 h2
                      cases h
                      obtain ⟨x', p', he, hi, hlc⟩ := nm h1
                      cases he
                      exact ps_set g.nd hi hlc (hf _ _ h2) (swaps_cell (by rw [g.sc]; exact hl.1)) (.inl (fn _))
                    · cases h
                  · cases h
              · rename_i hc
                split at h
                · rename_i i v h1 h2
                  cases h
                  obtain ⟨x', p', he, hi, hl⟩ := nm h1
                  cases he
                  exact ps_set g.nd hi hl (hf _ _ h2) (swaps_ns (by simpa using hc)) (.inl (fn _))
                · cases h
            | Attribute o f p =>
              dsimp only at h
              split at h
              · rename_i a v h1 h2
                cases h
                exact ps_fld (hf _ _ h1) (hf _ _ h2) swaps_at
              · cases h
            | Subscript o i p =>
              dsimp only at h
              split at h
              · cases h
              · rename_i hs
                split at h
                · rename_i a b v h1 h2 h3
                  cases h
                  refine PSi (ps_asg (hf _ _ h3) (pg_sub (hf _ _ h1) (hf _ _ h2) (PSetor set_list (p_setd hu)) (asg_sub (by simpa using hs))) sole_sub stores_sub) fun D σ H q => ?_
                  exact q
                · cases h
            | Tuple ts j p =>
              dsimp only at h
              split at h
              · rename_i vs k2 p2
                split at h
                · rename_i x px y py a b
                  split at h
                  · rename_i hp
                    split at h
                    · rename_i i j' v w h1 h2 h3 h4
                      cases h
                      obtain ⟨hp, hcm⟩ := Bool.and_eq_true_iff.mp hp
                      have hp' := hp
                      unfold parB at hp
                      simp only [Bool.and_eq_true, decide_eq_true_eq, Bool.not_eq_true', List.all_cons, List.all_nil, Bool.and_true] at hp
                      obtain ⟨⟨⟨⟨⟨⟨⟨c1, c2⟩, c3⟩, c4⟩, c5⟩, c6⟩, c7⟩, c8⟩ := hp
                      have hij : i ≠ j' := by
                        intro e
                        have e1 := ixOf_get h1
                        have e2 := ixOf_get h2
                        rw [e, e2] at e1
                        cases e1
                        simp at c5
                      refine PSi (ps_par (g.calm hcm) g.nd (by rw [hN]; exact ixOf_get h1) (by rw [hN]; exact ixOf_get h2) hij (by rw [g.sc]; exact c2) (by rw [g.sc]; exact c3) (pa_cons (hf _ _ h3) (pa_cons (hf _ _ h4) pa_nil (starEach_ns c6.2)) (starEach_ns c6.1)) (stores_par (by rw [g.sc]; exact hp')) sole_tup) fun D σ H q => ?_
                      refine (show wE (rx X ta mm xc) k v W σ H fun x H1 => wE (rx X ta mm xc) k w W σ H1 fun y H2 => ∃ a b, [x, y] = [a, b] ∧ D.nx ((σ.set i (some a)).set j' (some b)) H2 from ?_)
                      have mono : ∀ x : V, (fun (y : V) (H2 : Hp) => D.nx ((σ.set i (some x)).set j' (some y)) H2) = fun y H2 => ∃ a b, [x, y] = [a, b] ∧ D.nx ((σ.set i (some a)).set j' (some b)) H2 := by
                        intro x
                        funext y H2
                        apply propext
                        constructor
                        · intro z
                          exact ⟨x, y, rfl, z⟩
                        · rintro ⟨a, b, e, z⟩
                          cases e
                          exact z
                      simp only [← mono]
                      exact q
                    · cases h
                  · split at h
                    · rename_i hun
                      split at h
                      · rename_i t v h1 h2
                        cases h
                        exact tts (Bool.and_eq_true_iff.mp hun).2 h1 h2 (stores_unp (by rw [g.sc]; exact (Bool.and_eq_true_iff.mp hun).1))
                      · cases h
                    · cases h
                · rename_i x px y py z pz a b c
                  split at h
                  · rename_i hp
                    split at h
                    · rename_i i j' l v w u h1 h2 h5 h3 h4 h6
                      cases h
                      obtain ⟨hp, hcm⟩ := Bool.and_eq_true_iff.mp hp
                      have hp' := hp
                      unfold par3B at hp
                      simp only [Bool.and_eq_true, decide_eq_true_eq, Bool.not_eq_true', List.all_cons, List.all_nil, Bool.and_true] at hp
                      obtain ⟨⟨⟨⟨⟨⟨⟨⟨⟨⟨⟨c1, c2⟩, c3⟩, d3⟩, c4⟩, d4⟩, c5⟩, d5⟩, e5⟩, c6⟩, c7⟩, c8⟩ := hp
                      have ixn : ∀ {s t : Str} {a b : Nat}, ixOf N s = some a → ixOf N t = some b → (s == t) = false → a ≠ b := by
                        intro s t a b q1 q2 q3 e
                        have e1 := ixOf_get q1
                        have e2 := ixOf_get q2
                        rw [e, e2] at e1
                        cases e1
                        simp at q3
                      refine PSi (ps_par3 (g.calm hcm) g.nd (by rw [hN]; exact ixOf_get h1) (by rw [hN]; exact ixOf_get h2) (by rw [hN]; exact ixOf_get h5) (ixn h1 h2 c5) (ixn h1 h5 d5) (ixn h2 h5 e5) (by rw [g.sc]; exact c2) (by rw [g.sc]; exact c3) (by rw [g.sc]; exact d3)
                        (pa_cons (hf _ _ h3) (pa_cons (hf _ _ h4) (pa_cons (hf _ _ h6) pa_nil (starEach_ns c6.2.2)) (starEach_ns c6.2.1)) (starEach_ns c6.1)) (stores_par3 (by rw [g.sc]; exact hp')) sole_tup) fun D σ H q => ?_
                      refine (show wE (rx X ta mm xc) k v W σ H fun x H1 => wE (rx X ta mm xc) k w W σ H1 fun y H2 => wE (rx X ta mm xc) k u W σ H2 fun z H3 => ∃ a b c, [x, y, z] = [a, b, c] ∧ D.nx (((σ.set i (some a)).set j' (some b)).set l (some c)) H3 from ?_)
                      have mono : ∀ x y : V, (fun (z : V) (H2 : Hp) => D.nx (((σ.set i (some x)).set j' (some y)).set l (some z)) H2) = fun z H2 => ∃ a b c, [x, y, z] = [a, b, c] ∧ D.nx (((σ.set i (some a)).set j' (some b)).set l (some c)) H2 := by
                        intro x y
                        funext z H2
                        apply propext
                        constructor
                        · intro q
                          exact ⟨x, y, z, rfl, q⟩
                        · rintro ⟨a, b, c, e, q⟩
                          cases e
                          exact q
                      simp only [← mono]
                      exact q
                    · cases h
                  · split at h
                    · rename_i hun
                      split at h
                      · rename_i t v h1 h2
                        cases h
                        exact tts (Bool.and_eq_true_iff.mp hun).2 h1 h2 (stores_unp (by rw [g.sc]; exact (Bool.and_eq_true_iff.mp hun).1))
                      · cases h
                    · cases h
                · split at h
                  · rename_i hun
                    split at h
                    · rename_i t v h1 h2
                      cases h
                      exact tts (Bool.and_eq_true_iff.mp hun).2 h1 h2 (stores_unp (by rw [g.sc]; exact (Bool.and_eq_true_iff.mp hun).1))
                    · cases h
                  · cases h
              · rename_i hne
                split at h
                · rename_i hcm
                  have hnt : tupB e = false := by cases e <;> first | rfl | exact absurd rfl (hne _ _ _)
                  split at h
                  · rename_i i j' v h1 h2
                    cases h
                    obtain ⟨a, b, p2, rfl, g1, g2⟩ := cStar_eq h1
                    exact ps_asg (hf _ _ h2) (pg_star T g.nd (g.calm hcm) (by rw [hN]; exact g1) (by rw [hN]; exact g2)) sole_tup (stores_nt hnt)
                  · rename_i v h1 h2
                    split at h
                    · rename_i t h3
                      cases h
                      exact tts hcm h3 h2 (stores_nt hnt)
                    · cases h
                  · cases h
                · cases h
            | _ => cases h
      | AugAssign tg op e pos =>
        cases tg with
        | Name x px =>
          dsimp only at h
          split at h
          · rename_i i v h1 h2
            cases h
            obtain ⟨x', p', he, hi, hl⟩ := nm h1
            cases he
            exact ps_aug g.nd hi hl (hf _ _ h2) (p_aug op) (.inl (fn _))
          · cases h
        | Attribute o f p =>
          dsimp only at h
          split at h
          · rename_i a v h1 h2
            cases h
            exact ps_fldaug (hf _ _ h1) (hf _ _ h2) (p_augF op)
          · cases h
        | _ => cases h
      | Return e pos =>
        cases e with
        | none =>
          cases h
          exact ps_retN
        | some e =>
          dsimp only at h
          split at h
          · rename_i m' hh
            cases h
            obtain ⟨x, p, a, r, p1, tg, iter, scope, p2, it, gg, es, rfl, rfl, hblk, hset, hcm, ho, hgl, h1, h2, h3⟩ := cRetC_eq hh
            obtain ⟨hd, _, _⟩ := okName_d ho
            obtain ⟨hns, m1, ms1, rfl, hr⟩ := cEs_ns h3
            have ok : BlkOk X.N X.env.scope scope (ownOf N (tgNames tg)) := by
              rw [g.N, g.sc]
              exact blkOk_by hblk
            refine PSi (ps_ret (pe_lcX (tt := fun _ H S => S true H) (te := fun σ σ' H' S => ∃ f, (rx X ta mm xc).mg x = some (.ref f) ∧ PySem.W.keepIn (rx X ta mm xc).K (.ref f) = true ∧ wEs (rx X ta mm xc) k (.cons m1 ms1) W0 σ' H' fun vs H1 => ∃ sp, CallOk (rx X ta mm xc).toRt k f sp ∧ sp vs H1 S fun c d H2 => W c d σ H2) (g.calm hcm) g.nd (pi_of g hf h1) ok (fun pins σ H s fp I hfp => ⟨?_, ?_, ?_⟩) (fold_ns hset))) fun D σ H q => q
            · exact pg_tg (tg_blk s H _ _ fp) g.nd (g.calm hcm) (by rw [show (bCx X s H scope fp).N = N from g.N]; exact h2)
            · exact pts_nil
            · have gb := g.blk hcm scope s H s.heap.objs.size (bCells X s scope) fp
              intro pB sB σB HB Q IB q
              obtain ⟨f, hm, hk, q⟩ := q
              exact pex_call (W := W) (r := rtOf X) (k := k) rfl (g.room hcm) dx.stk dx.frm g.tk I hfp (gb.gl hgl) hd hm hk (pa_of (fun e m h => (sE_all ta xc N n).1 .no (relS scope sc) e m h k W0 _ gb) h3) ⟨_, _, rfl, starEach_ns hns, fun pos => star_any hr⟩ pB sB σB HB Q IB q
          · obtain ⟨x, h1, h2⟩ := Option.map_eq_some_iff.mp h
            cases h2
            exact ps_ret (hf _ _ h1)
      | Expr e pos =>
        dsimp only at h
        split at h
        · rename_i hs
          cases h
          unfold strB at hs
          split at hs
          · exact ps_doc
          · cases hs
        · split at h
          · cases h
          · rename_i hc
            obtain ⟨x, h1, h2⟩ := Option.map_eq_some_iff.mp h
            cases h2
            exact ps_expr (hf _ _ h1) (swaps_ns (by simpa using hc))
      | Pass pos =>
        cases h
        exact ps_pass
      | Break pos =>
        cases h
        exact ps_break
      | Continue pos =>
        cases h
        exact ps_continue
      | If t a b pos =>
        dsimp only at h
        split at h
        · rename_i x y z h1 h2 h3
          cases h
          exact ps_if (ht _ _ h1) (ihB _ _ _ _ _ h2 k W X g dx) (ihB _ _ _ _ _ h3 k W X g dx)
        · cases h
      | While t a b pos =>
        cases b with
        | cons _ _ => cases h
        | nil =>
          dsimp only at h
          split at h
          · rename_i x y h1 h2
            cases h
            exact ps_while g.own (ht _ _ h1) (ihB _ _ _ _ _ h2 k W X g dx)
          · cases h
      | For tg it a b pos =>
        cases b with
        | cons _ _ => cases h
        | nil =>
          dsimp only at h
          split at h
          · cases h
          rename_i hcm
          have hcm : tp.c = true := by simpa using hcm
          split at h
          · rename_i gg i b h1 h2 h3
            cases h
            have hset : ∀ x, foldedSetIterable it X.env x = pure x := by
              refine fold_ns ?_
              cases it <;> first | rfl | (unfold cI at h2; simp [setB] at h2)
            have hpg := pg_tg T g.nd (g.calm hcm) (by rw [hN]; exact h1)
            exact PSor (ps_for g.own (g.calm hcm) (pi_of g hf h2) hpg (ihB _ _ _ _ _ h3 k W X g dx) hset) (ps_lock (ps_for g.own (g.calm hcm) (pi_of g.w0 hf0 h2) hpg (ihB _ _ _ _ _ h3 k W0 X g.w0 dx) hset))
          · cases h
      | Try body hs oe fb pos =>
        dsimp only at h
        split at h
        · rename_i m' hh
          cases h
          obtain ⟨x, np, y, b₀, suite, pos', i, a, b, rfl, rfl, rfl, hcm, ho, hgl, hly, h1, h2, h3, rfl⟩ := cTry_eq (N := N) hh
          obtain ⟨hd, _, _⟩ := okName_d ho
          refine ⟨fun pins s σ H D I q => ?_⟩
          obtain ⟨c, hm, q⟩ := q
          refine (ps_try_as (tb := fun W D σ H => wSs (rx X ta mm xc) k a W D σ H) (ts := fun p cls d D σ H => wSs (rx X ta mm (some (p, cls, d))) k b W0 D σ H) dx.stk dx.frm g.nd (by rw [hN]; exact ixOf_get h1) (by rw [← g.sc] at hly; exact hly) ⟨g.gl hgl, hd, hm⟩ g.tk
            (fun W pn xe tk po => ihB xc .no sc body a h2 k W (X.tr pn xe) ⟨g.N, g.nd, g.sc, fun _ => g.room hcm, g.u65, fun _ => g.calm hcm, tk, po, g.blt, fun _ => g.exn hcm, (fun z => by cases z), (fun z => by cases z), (fun z => by cases z)⟩ ⟨fn, dx.stk, dx.frm⟩)
            (fun p oe cls d pn hz hf => ihB (some (p, cls, d)) .qt sc _ b h3 k W0 (X.suite p ((p, oe) :: pn)) ⟨g.N, g.nd, g.sc, (fun z => by cases z), g.u65, (fun z => by cases z), takes0, PassesOwn.never, g.blt, (fun z => by cases z), (fun _ z => by cases z), fun _ => ⟨isH_suite hz hf, fldX_suite hz hf⟩, (fun z => by cases z)⟩ ⟨fn, dx.stk, dx.frm⟩)).run pins s σ H D I q
        · obtain ⟨x, np, b₀, suite, pos', a, b, rfl, rfl, rfl, hcm, ho, hgl, h2, h3, rfl⟩ := cTryO_eq h
          obtain ⟨hd, _, _⟩ := okName_d ho
          refine ⟨fun pins s σ H D I q => ?_⟩
          obtain ⟨c, hm, q⟩ := q
          refine (ps_try_only (tb := fun W D σ H => wSs (rx X ta mm xc) k a W D σ H) (ts := fun p cls d D σ H => wSs (rx X ta mm (some (p, cls, d))) k b W0 D σ H) dx.stk dx.frm ⟨g.gl hgl, hd, hm⟩ g.tk
            (fun W pn xe tk po => ihB xc .no sc body a h2 k W (X.tr pn xe) ⟨g.N, g.nd, g.sc, fun _ => g.room hcm, g.u65, fun _ => g.calm hcm, tk, po, g.blt, fun _ => g.exn hcm, (fun z => by cases z), (fun z => by cases z), (fun z => by cases z)⟩ ⟨fn, dx.stk, dx.frm⟩)
            (fun p oe cls d pn hz hf => ihB (some (p, cls, d)) .qt sc _ b h3 k W0 (X.suite p ((p, oe) :: pn)) ⟨g.N, g.nd, g.sc, (fun z => by cases z), g.u65, (fun z => by cases z), takes0, PassesOwn.never, g.blt, (fun z => by cases z), (fun _ z => by cases z), fun _ => ⟨isH_suite hz hf, fldX_suite hz hf⟩, (fun z => by cases z)⟩ ⟨fn, dx.stk, dx.frm⟩)).run pins s σ H D I q
      | Delete ts pos =>
        cases ts with
        | nil => cases h
        | cons t r =>
          cases r with
          | nil =>
            cases t with
            | Subscript o i tp2 =>
              dsimp only at h
              split at h
              · cases h
              · split at h
                · rename_i a b h1 h2
                  cases h
                  exact ps_ddel (hf _ _ h1) (hf _ _ h2)
                · cases h
            | _ => cases h
          | cons _ _ => first | cases h | (dsimp only at h; cases h) | (cases t <;> cases h)
      | Raise e c pos =>
        dsimp only at h
        split at h
        · cases e with
          | none =>
            cases h
            exact ⟨fun pins s σ H D I q => False.elim q⟩
          | some e => cases h
        rename_i hcm
        have hcm : tp.c = true := by simpa using hcm
        split at h
        · rename_i m' h1
          cases h
          obtain ⟨x, p, z, j, p2, p3, rfl, rfl, rfl, ho, hgl⟩ := cRaise_eq h1
          obtain ⟨hd, _, _⟩ := okName_d ho
          refine ⟨fun pins s σ H D I q => ?_⟩
          rcases q with ⟨C, hm, hx, q⟩ | ⟨C, nm, hm, hx, hk, q⟩
          rotate_left
          · exact (ps_err (g.calm hcm) g.tk hx ((g.room hcm).mono hk) (g.gl hgl) hm hd).run pins s σ H D I q
          exact (ps_raise (g.calm hcm) g.tk (pmk_own PySem.F.excBase_ValueError hx.ex hm hx.kp (raises_own hx.sb hx.ty) (g.gl hgl) hd)).run pins s σ H D I q
        · split at h
          · rename_i m' h1
            cases h
            obtain ⟨x, p, a, p3, v, rfl, rfl, rfl, ho, hgl, hns, h2⟩ := cRaiseV_eq h1
            obtain ⟨hd, _, _⟩ := okName_d ho
            refine ⟨fun pins s σ H D I q => ?_⟩
            obtain ⟨C, nm, hm, hx, hk, q⟩ := q
            exact (ps_row (g.calm hcm) g.tk hx ((g.room hcm).mono hk) (g.gl hgl) hm hd (hf _ _ h2) (starEach_ns hns)).run pins s σ H D I q
          · cases h
            exact ⟨fun pins s σ H D I q => False.elim q⟩
      | _ => cases h
    · unfold cSs at h
      cases st with
      | nil =>
        cases h
        exact pss_nil
      | cons a r =>
        dsimp only at h
        split at h
        · rename_i x y h1 h2
          cases h
          exact pss_cons (ihS _ _ _ _ _ h1 k W X g dx) (ihB _ _ _ _ _ h2 k W X g dx)
        · cases h
end
def scopeB (N ps : List Str) (sc : Scope) : Bool :=
  decide (sc.kind = .function) && !sc.isCoroutine && !sc.isGenerator && decide N.Nodup && decide (N.take ps.length = ps) &&
  (ps.all fun x => decide (sc.names.lookup x = some .local) || decide (sc.names.lookup x = some .cell)) && (sc.names.all fun y => decide (y.2 ≠ .free))
theorem scopeB_ok {N ps : List Str} {sc : Scope} (h : scopeB N ps sc = true) : FnScope N ps sc := by
  unfold scopeB at h
  simp only [Bool.and_eq_true, decide_eq_true_eq, Bool.not_eq_true', List.all_eq_true, Bool.or_eq_true] at h
  obtain ⟨⟨⟨⟨⟨⟨h1, h2⟩, h3⟩, h4⟩, h5⟩, h6⟩, h7⟩ := h
  exact ⟨h1, h2, h3, h4, h5, h6, h7⟩
section
variable {R : Rt}
/-- a def's promise, by the reading of its small text -/
theorem fn_wp {x qual : Str} {st : Stmt} {f : Addr} {fd : FuncData} {N ps : List Str} {k : Nat} {sp : Sp} {body : Ss} (F : Fun R.K x qual st f fd) (S : scopeB N ps (defScope st) = true) (hc : cSs N 60 .no (defScope st) (defBody st) = some body)
    (blt : ∀ x ∈ bltNames, R.mg x = none) (len : ∀ vs H Q E, sp vs H Q E → vs.length = ps.length)
    (h : ∀ vs H Q E, sp vs H Q E → wSs ⟨R, [], fun _ _ _ => False, none⟩ k body (fun cls d _ H' => E cls d H') { nx := fun _ H' => Q .non H', rt := Q } (L2.start N vs) H) : FnOk R.P R.w R.K R.mg R.base (L2.CX R.P R.w) (k + 1) f fd ps sp := by
  have S' := scopeB_ok S
  refine F.okX S' len fun cdv A outer s H vs Q E hr hsp => ?_
  refine ⟨_, (sS_all [] (fun _ _ _ => False) N 60).2 none _ _ _ _ hc k (fun cls d _ H' => E cls d H') _ ⟨rfl, S'.nd, rfl, fun _ => hr, Zw.Room.u65 hr, fun _ => rfl, takes_of rfl rfl rfl rfl, passes_of rfl, blt, fun _ => rfl, (fun z => by cases z), (fun z => by cases z), (fun z => by cases z)⟩ ⟨fun _ => rfl, rfl, rfl⟩, ?_⟩
  exact h vs H Q E hsp
/-- a def that makes lambdas: its code object at c, the table of its code objects at P -/
structure FunL (K : PySem.W.Frag) (x qual : Str) (st : Stmt) (f c : Addr) (fd : FuncData) : Prop where
  ex : ∃ (oc : Value) (od : Option Addr) (kV doc pm : Value) (an : Option Addr) (ct : Value) (osl : Array (Option Value)),
    fd = PySem.W.fnOf x qual (defArgs st) (defBody st) (defScope st) .none kV doc pm an (.ref c) ct ∧ K.lookup f = some ⟨oc, od, .func fd, osl⟩ ∧ PySem.W.codeIn K (.ref c) qual = true
/-- what a lambda is called within a def -/
def lamQ (qual : Str) : Str := (envOfC qual { kind := .function, names := [], isGenerator := false, isCoroutine := false } 0 0 .none).qual ++ "<lambda>"
theorem fn_wpL {x qual : Str} {st : Stmt} {f c P : Addr} {fd : FuncData} {N ps : List Str} {k : Nat} {sp : Sp} {body : Ss} {ta : List (Addr × Str)} (F : FunL R.K x qual st f c fd) (S : scopeB N ps (defScope st) = true) (hc : cSs N 60 .lam (defScope st) (defBody st) = some body)
    (blt : ∀ x ∈ bltNames, R.mg x = none) (TB : LamX.TabB R.base R.mg c P) (hm : (P, lamQ qual) ∈ ta) (hu : ∀ p ∈ ta, p.1 = P → p.2 = lamQ qual) (len : ∀ vs H Q E, sp vs H Q E → vs.length = ps.length)
    (h : ∀ M vs H Q E, sp vs H Q E → wSs ⟨R, ta, M, none⟩ k body (fun cls d _ H' => E cls d H') { nx := fun _ H' => Q .non H', rt := Q } (L2.start N vs) H) : FnOk R.P R.w R.K R.mg R.base (L2.CX R.P R.w) (k + 1) f fd ps sp := by
  have S' := scopeB_ok S
  obtain ⟨oc, od, kV, doc, pm, an, ct, osl, rfl, lk, hcd⟩ := F.ex
  refine fn_of lk hcd S' len fun A outer s H vs Q E hr hsp => ?_
  refine ⟨_, (sS_all ta (Mof _) N 60).2 none _ _ _ _ hc k (fun cls d _ H' => E cls d H') _ ⟨rfl, S'.nd, rfl, fun _ => hr, Zw.Room.u65 hr, fun _ => rfl, takes_of rfl rfl rfl rfl, passes_of rfl, blt, fun _ => rfl, (fun z => by cases z), (fun z => by cases z), fun _ => ⟨czFor_fn fun _ => rfl, fun _ => ⟨fun _ => rfl, rfl⟩, fun _ _ _ z => z, c, P, TB, rfl, hm, hu⟩⟩ ⟨fun _ => rfl, rfl, rfl⟩, ?_⟩
  exact h _ vs H Q E hsp
theorem CallOk.fn {j k : Nat} {f : Addr} {fd : FuncData} {ps : List Str} {sp : Sp} (F : FnOk R.P R.w R.K R.mg R.base (L2.CX R.P R.w) j f fd ps sp) (hb : Binds R.K fd ps []) (h : j ≤ k) : CallOk R k f sp :=
  ⟨fun X e hr pins σ H s Q E us vs I hx r q => by
    subst e
    exact run_fnS (E := fun _ => E) (F.mono h) hr hb hx I r q⟩
theorem CallOk.mono {j k : Nat} {f : Addr} {sp : Sp} (c : CallOk R j f sp) (h : j ≤ k) : CallOk R k f sp := ⟨fun X e hr => c.run X e (hr.mono h)⟩
end
end Zw
set_option Elab.async false
set_option linter.all false
set_option maxRecDepth 100000
set_option maxHeartbeats 4000000
namespace Zw
open PySem PySem.Spec PyProof.Rows L2
def NewO (H : Hp) (o : HO) (Q : VK) : Prop := ∀ p, H p = none → Q (.ref p) (upd H p o)
def PutA (K : PySem.W.Frag) (x : V) (f : Str) (y : V) (H : Hp) (N : Hp → Prop) : Prop := ∃ p C dx fs, x = .ref p ∧ H p = some (.ins C dx fs) ∧ Cls K C ∧ NoAttr K C f ∧ fs.length < 1000 ∧ N (upd H p (.ins C dx (putF f y fs)))
section
variable {R : Rx} {k : Nat} {W : WX} {D : Ends} {σ : L2.St} {H : Hp} {Q : VK} {r : Ss}
theorem q_nil (h : D.nx σ H) : wSs R k .nil W D σ H := h
theorem q_set {i : Nat} {e : E} (h : wE R k e W σ H fun v H1 => wSs R k r W D (σ.set i (some v)) H1) : wSs R k (.cons (.set i e) r) W D σ H := h
theorem q_par {i j : Nat} {a b : E} (h : wE R k a W σ H fun v H1 => wE R k b W σ H1 fun w H2 => wSs R k r W D ((σ.set i (some v)).set j (some w)) H2) : wSs R k (.cons (.par i j a b) r) W D σ H := h
theorem q_exp {e : E} (h : wE R k e W σ H fun _ H1 => wSs R k r W D σ H1) : wSs R k (.cons (.exp e) r) W D σ H := h
theorem q_doc (h : wSs R k r W D σ H) : wSs R k (.cons .doc r) W D σ H := h
theorem q_pass (h : wSs R k r W D σ H) : wSs R k (.cons .pass r) W D σ H := h
theorem q_ret {e : E} (h : wE R k e W σ H D.rt) : wSs R k (.cons (.ret e) r) W D σ H := h
theorem q_retN (h : D.rt .non H) : wSs R k (.cons .retN r) W D σ H := h
theorem q_brk (h : D.bk σ H) : wSs R k (.cons .brk r) W D σ H := h
theorem q_cont (h : D.ct σ H) : wSs R k (.cons .cont r) W D σ H := h
theorem q_if {t : T} {a b : Ss} (h : wT R k t W σ H fun c H1 => if c = true then wSs R k a W { D with nx := fun σ' H' => wSs R k r W D σ' H' } σ H1 else wSs R k b W { D with nx := fun σ' H' => wSs R k r W D σ' H' } σ H1) : wSs R k (.cons (.ifs t a b) r) W D σ H := h
theorem q_try {x : Str} {i : Nat} {a b : Ss} {c : Value} (hm : R.mg x = some c ∨ (R.mg x = none ∧ bootBuiltins x = some c ∧ x ≠ "__name__")) (h : wSs R k a (wAs R.K c i (fun p cls d D' σ' H' => wSs { R.toRt with T := R.T, M := R.M, xc := some (p, cls, d) } k b W0 D' σ' H') W { D with nx := fun σ' H' => wSs R k r W D σ' H' }) { D with nx := fun σ' H' => wSs R k r W D σ' H' } σ H) : wSs R k (.cons (.tryAs x i a b) r) W D σ H := ⟨c, hm, h⟩
theorem q_setFld {a e : E} {f : Str} (h : wE R k e W σ H fun y H1 => wE R k a W σ H1 fun x H2 => PutA R.K x f y H2 fun H3 => wSs R k r W D σ H3) : wSs R k (.cons (.setFld a f e) r) W D σ H := h
theorem q_setSub {a i e : E} (h : wE R k e W σ H fun v H1 => wE R k a W σ H1 fun x H2 => wE R k i W σ H2 fun y H3 => rSetL x y v H3 (fun H4 => wSs R k r W D σ H4) ∨ ∃ p H4, x = .ref p ∧ DPut H3 p y v H4 ∧ wSs R k r W D σ H4) : wSs R k (.cons (.setSub a i e) r) W D σ H := h
theorem e_var {i : Nat} {v : V} (hv : σ[i]? = some (some v)) (h : Q v H) : wE R k (.var i) W σ H Q := ⟨v, hv, h⟩
theorem e_glob {x : Str} {v : V} {u : Value} (hx : R.mg x = some u) (hr : RelV v u) (h : Q v H) : wE R k (.glob x) W σ H Q := ⟨v, u, hx, hr, h⟩
theorem e_bltn {x : Str} {v : V} {u : Value} (hx : bootBuiltins x = some u) (hr : RelV v u) (h : Q v H) : wE R k (.bltn x) W σ H Q := ⟨v, u, hx, hr, h⟩
theorem e_int {i : Int} (h : Q (.int i) H) : wE R k (.int i) W σ H Q := h
theorem e_str {z : Str} (h : Q (.str z) H) : wE R k (.str z) W σ H Q := h
theorem e_bl {b : Bool} (h : Q (.bl b) H) : wE R k (.bl b) W σ H Q := h
theorem e_non (h : Q .non H) : wE R k .non W σ H Q := h
theorem e_bin {op : Operator} {a b : E} (h : wE R k a W σ H fun x H1 => wE R k b W σ H1 fun y H2 => rBin R.K op x y H2 Q) : wE R k (.bin op a b) W σ H Q := h
theorem e_neg {a : E} (h : wE R k a W σ H fun x H1 => ∃ i, x = .int i ∧ Q (.int (-i)) H1) : wE R k (.neg a) W σ H Q := h
theorem e_nt {a : E} (h : wE R k a W σ H fun x H1 => ∃ c, TruV R.K x H1 c ∧ Q (.bl (!c)) H1) : wE R k (.nt a) W σ H Q := h
theorem e_cmp {op : CmpOp} {a b : E} (h : wE R k a W σ H fun x H1 => wE R k b W σ H1 fun y H2 => rCmp R.K op x y H2 Q) : wE R k (.cmp op a b) W σ H Q := h
theorem e_chain {o1 o2 : CmpOp} {a b c : E} (h : wE R k a W σ H fun x H1 => wE R k b W σ H1 fun y H2 => rCmp R.K o1 x y H2 fun z H3 => ∃ c1, z = .bl c1 ∧
      if c1 = true then wE R k c W σ H3 fun v H4 => rCmp R.K o2 y v H4 Q else Q (.bl false) H3) : wE R k (.chain o1 o2 a b c) W σ H Q := h
theorem e_and {a b : E} (h : wE R k a W σ H fun x H1 => ∃ c, TruV R.K x H1 c ∧ if c = true then wE R k b W σ H1 Q else Q x H1) : wE R k (.and2 a b) W σ H Q := h
theorem e_or {a b : E} (h : wE R k a W σ H fun x H1 => ∃ c, TruV R.K x H1 c ∧ if c = true then Q x H1 else wE R k b W σ H1 Q) : wE R k (.or2 a b) W σ H Q := h
theorem e_ife {t : T} {a b : E} (h : wT R k t W σ H fun c H1 => if c = true then wE R k a W σ H1 Q else wE R k b W σ H1 Q) : wE R k (.ife t a b) W σ H Q := h
theorem e_fld {a : E} {f : Str} (h : wE R k a W σ H fun x H1 => rFld R.K x f H1 Q) : wE R k (.fld a f) W σ H Q := h
theorem e_sub {a i : E} (h : wE R k a W σ H fun x H1 => wE R k i W σ H1 fun y H2 => rSubs R.K x y H2 Q) : wE R k (.sub a i) W σ H Q := h
theorem e_tup {es : Es} (h : wEs R k es W σ H fun xs H1 => xs.length ≤ sizeLine ∧ NewO H1 (.tup xs) Q) : wE R k (.tup es) W σ H Q := h
theorem e_lst {es : Es} (h : wEs R k es W σ H fun xs H1 => xs.length ≤ sizeLine ∧ NewO H1 (.lst xs) Q) : wE R k (.lst es) W σ H Q := h
theorem e_bi {b : Bi} {es : Es} (h : wEs R k es W σ H fun vs H1 => rBi R.K R.xc b vs H1 Q) : wE R k (.callB b es) W σ H Q := h
theorem e_call {x : Str} {es : Es} {f : Addr} (h1 : R.mg x = some (.ref f)) (h2 : PySem.W.keepIn R.K (.ref f) = true) (h : wEs R k es W σ H fun vs H1 => ∃ sp, CallOk R.toRt k f sp ∧ sp vs H1 Q (WE W σ)) : wE R k (.call x es) W σ H Q := ⟨f, h1, h2, h⟩
theorem x_sp {R : Rt} {f : Addr} {sp : Sp} {vs : List V} {X : XK} (c : CallOk R k f sp) (h : sp vs H Q X) : ∃ sp, CallOk R k f sp ∧ sp vs H Q X := ⟨sp, c, h⟩
theorem e_meth {a : E} {m : Str} {ms : List Mt} {es : Es} (h : wE R k a W σ H fun x H1 =>
      (R.xc = none ∧ ∃ p C dx fs g, x = .ref p ∧ H1 p = some (.ins C dx fs) ∧ Cls R.K C ∧ Meth R.K C m g ∧ fs.lookup m = none ∧
        wEs R k es W σ H1 fun vs H2 => ∃ sp, CallOk R.toRt k g sp ∧ sp (x :: vs) H2 Q (WE W σ)) ∨
      (∃ t, t ∈ ms ∧ tyV R.K (mtT t) x H1 ∧ wEs R k es W σ H1 fun vs H2 => rMt R.K t x vs H2 Q)) : wE R k (.meth a m ms es) W σ H Q := h
theorem x_bm {x : V} {ms : List Mt} {es : Es} {P : Prop} (t : Mt) (m : t ∈ ms) (ty : tyV R.K (mtT t) x H) (h : wEs R k es W σ H fun vs H2 => rMt R.K t x vs H2 Q) : P ∨ (∃ t, t ∈ ms ∧ tyV R.K (mtT t) x H ∧ wEs R k es W σ H fun vs H2 => rMt R.K t x vs H2 Q) := .inr ⟨t, m, ty, h⟩
theorem es_nil {Q : List V → Hp → Prop} (h : Q [] H) : wEs R k .nil W σ H Q := h
theorem es_cons {e : E} {es : Es} {Q : List V → Hp → Prop} (h : wE R k e W σ H fun x H1 => wEs R k es W σ H1 fun xs H2 => Q (x :: xs) H2) : wEs R k (.cons e es) W σ H Q := h
theorem t_yes {Q : Bool → Hp → Prop} (h : Q true H) : wT R k .yes W σ H Q := h
theorem t_nt {a : T} {Q : Bool → Hp → Prop} (h : wT R k a W σ H fun c H1 => Q (!c) H1) : wT R k (.nt a) W σ H Q := h
theorem t_and {a b : T} {Q : Bool → Hp → Prop} (h : wT R k a W σ H fun c H1 => if c = true then wT R k b W σ H1 Q else Q false H1) : wT R k (.and2 a b) W σ H Q := h
theorem t_or {a b : T} {Q : Bool → Hp → Prop} (h : wT R k a W σ H fun c H1 => if c = true then Q true H1 else wT R k b W σ H1 Q) : wT R k (.or2 a b) W σ H Q := h
theorem t_cmp {e : E} {Q : Bool → Hp → Prop} (h : wE R k e W σ H fun x H1 => ∃ c, x = .bl c ∧ Q c H1) : wT R k (.cmp e) W σ H Q := h
theorem t_val {e : E} {Q : Bool → Hp → Prop} (h : wE R k e W σ H fun x H1 => ∃ c, TruV R.K x H1 c ∧ Q c H1) : wT R k (.val e) W σ H Q := h
end
section
variable {K : PySem.W.Frag} {xc : XC} {σ : L2.St} {H : Hp} {Q : VK} {l l' : List HP}
theorem Rp.mem {α : Type _} {a b : α} {l l' : List α} (r : Rp a b l l') : a ∈ l := by
  induction r with
  | hd => exact .head _
  | tl r ih => exact .tail _ ih
theorem x_ite {c : Bool} {A B : Prop} (a : c = true → A) (b : c = false → B) : if c = true then A else B := by
  cases c
  · rw [if_neg (by simp)]; exact b rfl
  · rw [if_pos rfl]; exact a rfl
theorem x_itt {A B : Prop} (a : A) : if true = true then A else B := by rw [if_pos rfl]; exact a
theorem x_iff {A B : Prop} (b : B) : if false = true then A else B := by rw [if_neg Bool.false_ne_true]; exact b
theorem x_dt {c : Bool} {A B : Prop} (h : c = true) (a : A) : if c = true then A else B := by rw [if_pos h]; exact a
theorem x_df {c : Bool} {A B : Prop} (h : c = false) (b : B) : if c = true then A else B := by rw [h, if_neg Bool.false_ne_true]; exact b
theorem x_bl {b : Bool} {P : Bool → Prop} (h : P b) : ∃ c, V.bl b = V.bl c ∧ P c := ⟨b, rfl, h⟩
theorem x_in {i : Int} {P : Int → Prop} (h : P i) : ∃ j, V.int i = V.int j ∧ P j := ⟨i, rfl, h⟩
theorem tr_bl {b : Bool} {P : Bool → Prop} (h : P b) : ∃ c, TruV K (.bl b) H c ∧ P c := ⟨b, rfl, h⟩
theorem tr_int {i : Int} {P : Bool → Prop} (h : P (i != 0)) : ∃ c, TruV K (.int i) H c ∧ P c := ⟨_, rfl, h⟩
theorem tr_non {P : Bool → Prop} (h : P false) : ∃ c, TruV K .non H c ∧ P c := ⟨_, rfl, h⟩
theorem sq_l {p : Addr} {xs : List V} (e : H p = some (.lst xs)) : SqL K H p xs := .inl (.inl e)
theorem st_t {p : Addr} {xs : List V} (e : H p = some (.tup xs)) : SqT K H p xs := .inl (.inl e)
theorem b_add {i j : Int} (h : Q (.int (i + j)) H) : rBin K .Add (.int i) (.int j) H Q := .inl ⟨i, j, rfl, rfl, h⟩
theorem b_sub {i j : Int} (h : Q (.int (i - j)) H) : rBin K .Sub (.int i) (.int j) H Q := ⟨i, j, rfl, rfl, h⟩
theorem b_mul {i j : Int} (c : CMul i j) (h : Q (.int (i * j)) H) : rBin K .Mult (.int i) (.int j) H Q := .inl ⟨i, j, rfl, rfl, c, h⟩
theorem b_div {i j : Int} (c : CDivW i j) (h : Q (.int (i / j)) H) : rBin K .FloorDiv (.int i) (.int j) H Q := ⟨i, j, rfl, rfl, c, h⟩
theorem b_mod {i j : Int} (c : 0 < j) (h : Q (.int (i % j)) H) : rBin K .Mod (.int i) (.int j) H Q := ⟨i, j, rfl, rfl, c, h⟩
/-- xs + ys, two lists -/
theorem b_cat {p q : Addr} {xs ys : List V} (ep : H p = some (.lst xs)) (eq : H q = some (.lst ys)) (b : xs.length + ys.length ≤ sizeLine) (h : NewO H (.lst (xs ++ ys)) Q) : rBin K .Add (.ref p) (.ref q) H Q := .inr (.inr (.inl ⟨p, q, xs, ys, rfl, rfl, ep, eq, b, h⟩))
theorem c_lt {i j : Int} (h : Q (.bl (decide (i < j))) H) : rCmp K .Lt (.int i) (.int j) H Q := ⟨i, j, rfl, rfl, h⟩
theorem c_le {i j : Int} (h : Q (.bl (decide (i ≤ j))) H) : rCmp K .LtE (.int i) (.int j) H Q := ⟨i, j, rfl, rfl, h⟩
theorem c_gt {i j : Int} (h : Q (.bl (decide (j < i))) H) : rCmp K .Gt (.int i) (.int j) H Q := ⟨i, j, rfl, rfl, h⟩
theorem c_ge {i j : Int} (h : Q (.bl (decide (j ≤ i))) H) : rCmp K .GtE (.int i) (.int j) H Q := ⟨i, j, rfl, rfl, h⟩
theorem c_is {x : V} (h : Q (.bl (decide (x = .non))) H) : rCmp K .Is x .non H Q := ⟨rfl, h⟩
theorem c_isnt {x : V} (h : Q (.bl (!decide (x = .non))) H) : rCmp K .IsNot x .non H Q := ⟨rfl, h⟩
theorem c_ne {x y : V} (s : scal x y = true) (h : Q (.bl (!decide (x = y))) H) : rCmp K .NotEq x y H Q := .inl ⟨s, h⟩
theorem c_eqI {i j : Int} (h : Q (.bl (decide (i = j))) H) : rCmp K .Eq (.int i) (.int j) H Q := .inl ⟨rfl, by rw [show decide (V.int i = V.int j) = decide (i = j) by rw [decide_eq_decide]; exact ⟨fun h => by cases h; rfl, fun h => by rw [h]⟩]; exact h⟩
theorem c_neI {i j : Int} (h : Q (.bl (!decide (i = j))) H) : rCmp K .NotEq (.int i) (.int j) H Q := .inl ⟨rfl, by rw [show decide (V.int i = V.int j) = decide (i = j) by rw [decide_eq_decide]; exact ⟨fun h => by cases h; rfl, fun h => by rw [h]⟩]; exact h⟩
theorem c_eqB {i j : Bool} (h : Q (.bl (decide (i = j))) H) : rCmp K .Eq (.bl i) (.bl j) H Q := .inl ⟨rfl, by rw [show decide (V.bl i = V.bl j) = decide (i = j) by rw [decide_eq_decide]; exact ⟨fun h => by cases h; rfl, fun h => by rw [h]⟩]; exact h⟩
theorem c_neB {i j : Bool} (h : Q (.bl (!decide (i = j))) H) : rCmp K .NotEq (.bl i) (.bl j) H Q := .inl ⟨rfl, by rw [show decide (V.bl i = V.bl j) = decide (i = j) by rw [decide_eq_decide]; exact ⟨fun h => by cases h; rfl, fun h => by rw [h]⟩]; exact h⟩
theorem c_eqS {i j : Str} (h : Q (.bl (decide (i = j))) H) : rCmp K .Eq (.str i) (.str j) H Q := .inl ⟨rfl, by rw [show decide (V.str i = V.str j) = decide (i = j) by rw [decide_eq_decide]; exact ⟨fun h => by cases h; rfl, fun h => by rw [h]⟩]; exact h⟩
theorem c_eqD {x y : V} {d e : PyData} (hd : Dp K H x d) (he : Dp K H y e) (sd : SeqAt.shaped d = true) (se : SeqAt.shaped e = true) (h : Q (.bl (PyData.eqv d e)) H) : rCmp K .Eq x y H Q := .inr (.inl ⟨d, e, hd, he, sd, se, h⟩)
theorem ixN_nat {n i : Nat} (h : i < n) : ixN n (i : Int) = some i := by
  unfold ixN
  rw [if_pos (Int.natCast_nonneg i), if_pos (by omega)]
  rfl
theorem s_lst {p : Addr} {xs : List V} {i : Nat} {v : V} (e : SqL K H p xs) (g : xs[i]? = some v) (h : Q v H) : rSubs K (.ref p) (.int (i : Nat)) H Q :=
  .inl (.inl ⟨p, xs, i, v, rfl, rfl, e, by unfold atI; rw [ixN_nat (List.getElem?_eq_some_iff.mp g).1]; exact g, h⟩)
theorem s_tup {p : Addr} {xs : List V} {i : Nat} {v : V} (e : SqT K H p xs) (g : xs[i]? = some v) (h : Q v H) : rSubs K (.ref p) (.int (i : Nat)) H Q :=
  .inl (.inr (.inl ⟨p, xs, i, v, rfl, rfl, e, by unfold atI; rw [ixN_nat (List.getElem?_eq_some_iff.mp g).1]; exact g, h⟩))
theorem i_len {x : V} {n : Nat} (e : LenV K x H n) (h : Q (.int n) H) : rBi K xc .len [x] H Q := .inl ⟨x, n, rfl, e, fun _ => h⟩
theorem len_l {p : Addr} {xs : List V} (e : SqL K H p xs) : LenV K (.ref p) H xs.length := .inl ⟨xs, e, rfl⟩
theorem len_t {p : Addr} {xs : List V} (e : SqT K H p xs) : LenV K (.ref p) H xs.length := .inr ⟨xs, e, rfl⟩
theorem i_isi {x c : V} {t u : Value} {b : Bool} (hc : ClsV c u) (ht : TyX K H x t) (g : PySem.W.kitOne K t u = some b) (h : Q (.bl b) H) : rBi K xc .isinstance [x, c] H Q := .inl (.inl ⟨x, c, t, u, b, rfl, hc, ht, g, h⟩)
theorem i_isE {a C : Addr} {d : Option Addr} {c : V} {cv : Value} {b : Bool} (hd : d = none ∨ ∃ dd fs, d = some dd ∧ H dd = some (.xd fs)) (ec : ExcC K C) (hc : ∀ u, RelV c u → u = cv) (g : PySem.W.kitOne K (.ref C) cv = some b) (h : Q (.bl b) H) : rBi K (some (a, .ref C, d)) .isinstance [.ref a, c] H Q := .inr ⟨a, C, d, rfl, hd, ec, c, cv, b, rfl, hc, g, h⟩
theorem i_intB {b : Bool} (h : Q (.int (if b then 1 else 0)) H) : rBi K xc .int [.bl b] H Q := .inl (.inr ⟨b, rfl, h⟩)
theorem i_list {p : Addr} {xs : List V} (e : SqL K H p xs) (h : NewO H (.lst xs) Q) : rBi K xc .list [.ref p] H Q := ⟨p, xs, rfl, .inl e, h⟩
section
variable {p : Addr} {xs : List V} {v : V}
theorem s_0 (x : SL l H) (m : pt p (.lst xs) ∈ l) (g : xs[0]? = some v) (h : Q v H) : rSubs K (.ref p) (.int 0) H Q := s_lst (i := 0) (sq_l (SL.get m x)) g h
theorem s_1 (x : SL l H) (m : pt p (.lst xs) ∈ l) (g : xs[1]? = some v) (h : Q v H) : rSubs K (.ref p) (.int 1) H Q := s_lst (i := 1) (sq_l (SL.get m x)) g h
theorem s_2 (x : SL l H) (m : pt p (.lst xs) ∈ l) (g : xs[2]? = some v) (h : Q v H) : rSubs K (.ref p) (.int 2) H Q := s_lst (i := 2) (sq_l (SL.get m x)) g h
theorem n_lst (x : SL l H) (b : xs.length ≤ sizeLine) (h : ∀ p H', SL (pt p (.lst xs) :: l) H' → Q (.ref p) H') : xs.length ≤ sizeLine ∧ NewO H (.lst xs) Q := ⟨b, fun p n => h p _ (x.new _ n)⟩
theorem n_tup (x : SL l H) (b : xs.length ≤ sizeLine) (h : ∀ p H', SL (pt p (.tup xs) :: l) H' → Q (.ref p) H') : xs.length ≤ sizeLine ∧ NewO H (.tup xs) Q := ⟨b, fun p n => h p _ (x.new _ n)⟩
theorem n_o {o : HO} (x : SL l H) (h : ∀ p H', SL (pt p o :: l) H' → Q (.ref p) H') : NewO H o Q := fun p n => h p _ (x.new _ n)
end
theorem m_app {p : Addr} {xs : List V} {y : V} (x : SL l H) (r : Rp (pt p (.lst xs)) (pt p (.lst (xs ++ [y]))) l l') (b : xs.length < sizeLine) (h : ∀ H', SL l' H' → Q .non H') : rMt K .append (.ref p) [y] H Q :=
  ⟨p, xs, y, rfl, rfl, (SL.get r.mem x), b, h _ (x.wr r rfl)⟩
theorem m_pop0 {p : Addr} {xs : List V} {y : V} (x : SL l H) (r : Rp (pt p (.lst (y :: xs))) (pt p (.lst xs)) l l') (h : ∀ H', SL l' H' → Q y H') : rMt K .popAt (.ref p) [.int 0] H Q :=
  ⟨p, y :: xs, 0, 0, y, rfl, rfl, (SL.get r.mem x), by decide, by decide, by simp [seqIndex?], rfl, h _ (x.wr r rfl)⟩
theorem ty_l {p : Addr} {xs : List V} (e : SqL K H p xs) : tyV K "list" (.ref p) H := .inl ⟨rfl, xs, e⟩
/-- xs[i] = v -/
theorem p_lst {p : Addr} {xs : List V} {i : Nat} {v : V} {N : Hp → Prop} {P : Prop} (x : SL l H) (r : Rp (pt p (.lst xs)) (pt p (.lst (xs.set i v))) l l') (b : i < xs.length) (h : ∀ H', SL l' H' → N H') : rSetL (.ref p) (.int (i : Nat)) v H N ∨ P :=
  .inl ⟨p, xs, i, i, rfl, rfl, (SL.get r.mem x), ixN_nat b, h _ (x.wr r rfl)⟩
theorem p_0 {p : Addr} {xs : List V} {v : V} {N : Hp → Prop} {P : Prop} (x : SL l H) (r : Rp (pt p (.lst xs)) (pt p (.lst (xs.set 0 v))) l l') (b : 0 < xs.length) (h : ∀ H', SL l' H' → N H') : rSetL (.ref p) (.int 0) v H N ∨ P := p_lst (i := 0) x r b h
theorem p_1 {p : Addr} {xs : List V} {v : V} {N : Hp → Prop} {P : Prop} (x : SL l H) (r : Rp (pt p (.lst xs)) (pt p (.lst (xs.set 1 v))) l l') (b : 1 < xs.length) (h : ∀ H', SL l' H' → N H') : rSetL (.ref p) (.int 1) v H N ∨ P := p_lst (i := 1) x r b h
end
section
variable {R : Rx} {k : Nat} {W : WX} {D : Ends} {σ : L2.St} {H : Hp} {Q : VK} {r : Ss}
theorem q_for {i : Nat} {it : I} {a : Ss} (h : wI R k it W σ H fun J H1 => ∃ V : Nat → Nat → L2.St → Hp → Prop, (∃ m, V 0 m σ H1) ∧ ∀ j m σ H, V j m σ H →
  (J.stop j H ∧ wSs R k r W D σ H) ∨ (J.go j H ∧ ∃ N : L2.St → Hp → Prop, (∀ σ' H', N σ' H' → ∃ m', m' < m ∧ V (j + 1) m' σ' H') ∧ ∀ x H', J.yld j H x H' → wSs R k a W { D with nx := N, ct := N, bk := fun σ' H' => wSs R k r W D σ' H' } (σ.set i (some x)) H')) : wSs R k (.cons (.fors (.nm i) it a) r) W D σ H := .inl h
theorem i_seq {e : E} {S : It → Hp → Prop} (h : wE R k e W σ H fun x H1 => (∃ a, x = .ref a ∧ (∃ xs, SqL R.K H1 a xs) ∧ S (Itl R.K a) H1) ∨ (∃ a, x = .ref a ∧ (∃ xs, SqT R.K H1 a xs) ∧ S (Itt R.K a) H1) ∨
      (∃ d o kvs, x = .ref d ∧ H1 d = some (.frz o (.dK kvs)) ∧ S (Itk d o kvs) H1) ∨ (∃ z, x = .str z ∧ S (Its z) H1) ∨ (∃ d o kvs, x = .ref d ∧ H1 d = some (.frz o (.dT kvs)) ∧ S (Itkt d o kvs) H1)) : wI R k (.seq e) W σ H S := h
theorem i_rng {e : E} {S : It → Hp → Prop} (h : wE R k e W σ H fun x H1 => ∃ j : Int, x = .int j ∧ -(2 ^ 62) ≤ j ∧ j < 2 ^ 62 ∧ S (Itr 0 j.toNat) H1) : wI R k (.rng1 e) W σ H S := h
/-- over a list that stays as it is; inv: what holds ahead of turn j -/
theorem l_lst {i : Nat} {a : Ss} {p : Addr} {xs : List V} {P : Prop} (inv : Nat → L2.St → Hp → Prop) (e : SqL R.K H p xs) (i0 : inv 0 σ H) (sq : ∀ j σ H, inv j σ H → SqL R.K H p xs)
    (st : ∀ j x σ H, xs[j]? = some x → inv j σ H → wSs R k a W { D with nx := inv (j + 1), ct := inv (j + 1), bk := fun σ' H' => wSs R k r W D σ' H' } (σ.set i (some x)) H) (en : ∀ σ H, inv xs.length σ H → wSs R k r W D σ H) :
    (∃ q, V.ref p = .ref q ∧ (∃ xs, SqL R.K H q xs) ∧ ∃ V : Nat → Nat → L2.St → Hp → Prop, (∃ m, V 0 m σ H) ∧ ∀ j m σ H, V j m σ H →
  ((Itl R.K q).stop j H ∧ wSs R k r W D σ H) ∨ ((Itl R.K q).go j H ∧ ∃ N : L2.St → Hp → Prop, (∀ σ' H', N σ' H' → ∃ m', m' < m ∧ V (j + 1) m' σ' H') ∧ ∀ x H', (Itl R.K q).yld j H x H' → wSs R k a W { D with nx := N, ct := N, bk := fun σ' H' => wSs R k r W D σ' H' } (σ.set i (some x)) H')) ∨ P := by
  refine .inl ⟨p, rfl, ⟨xs, e⟩, fun j m σ H => j + m = xs.length ∧ inv j σ H, ⟨xs.length, by omega, i0⟩, fun j m σ H ⟨hm, hi⟩ => ?_⟩
  have s1 := sq j σ H hi
  by_cases hj : j < xs.length
  · refine .inr ⟨⟨xs, xs[j], s1, List.getElem?_eq_getElem hj⟩, inv (j + 1), fun σ' H' h' => ⟨m - 1, by omega, by omega, h'⟩, fun x H' hy => ?_⟩
    obtain ⟨rfl, hx⟩ := hy
    exact st j x σ _ (hx xs s1) hi
  · have : j = xs.length := by omega
    subst this
    exact .inl ⟨⟨xs, s1, Nat.le_refl _⟩, en σ H hi⟩
/-- over range(n) -/
theorem l_rng {i : Nat} {a : Ss} {n : Nat} (inv : Nat → L2.St → Hp → Prop) (b : n < 2 ^ 62) (i0 : inv 0 σ H)
    (st : ∀ j σ H, j < n → inv j σ H → wSs R k a W { D with nx := inv (j + 1), ct := inv (j + 1), bk := fun σ' H' => wSs R k r W D σ' H' } (σ.set i (some (.int (j : Nat)))) H) (en : ∀ σ H, inv n σ H → wSs R k r W D σ H) :
    ∃ j : Int, V.int (n : Nat) = .int j ∧ -(2 ^ 62) ≤ j ∧ j < 2 ^ 62 ∧ ∃ V : Nat → Nat → L2.St → Hp → Prop, (∃ m, V 0 m σ H) ∧ ∀ t m σ H, V t m σ H →
  ((Itr 0 j.toNat).stop t H ∧ wSs R k r W D σ H) ∨ ((Itr 0 j.toNat).go t H ∧ ∃ N : L2.St → Hp → Prop, (∀ σ' H', N σ' H' → ∃ m', m' < m ∧ V (t + 1) m' σ' H') ∧ ∀ x H', (Itr 0 j.toNat).yld t H x H' → wSs R k a W { D with nx := N, ct := N, bk := fun σ' H' => wSs R k r W D σ' H' } (σ.set i (some x)) H') := by
  refine ⟨n, rfl, by omega, by omega, fun j m σ H => j + m = n ∧ inv j σ H, ⟨n, by omega, i0⟩, fun j m σ H ⟨hm, hi⟩ => ?_⟩
  have en' : ((n : Int)).toNat = n := by omega
  rw [en']
  by_cases hj : j < n
  · refine .inr ⟨hj, inv (j + 1), fun σ' H' h' => ⟨m - 1, by omega, by omega, h'⟩, fun x H' hy => ?_⟩
    obtain ⟨rfl, hx⟩ := hy
    subst hx
    have : (0 : Int) + (j : Int) = (j : Int) := by omega
    rw [this]
    exact st j σ _ hj hi
  · have : j = n := by omega
    subst this
    exact .inl ⟨Nat.le_refl _, en σ H hi⟩
end
def N_begun : List Str := ["_law_script", "_law_stirred", "_law_cell"]
def b_begun : Ss := (.cons (.set 1 (.int 0))
  (.cons (.fors (.nm 2) (.seq (.var 0))
  (.cons (.set 1 (.bin .Mod (.bin .Add (.bin .Add (.bin .Mult (.var 1) (.int 48271)) (.bin .Mult (.var 2) (.int 69621))) (.int 11)) (.int 2147483647)))
  .nil))
  (.cons (.ret (.lst (.cons (.callB .list (.cons (.var 0) .nil)) (.cons (.bin .Mult (.var 1) (.callB .int (.cons (.cmp .Gt (.callB .len (.cons (.var 0) .nil)) (.int 2)) .nil))) .nil))))
  .nil)))
def N_take : List Str := ["_law_box", "_law_many", "_law_number"]
def b_take : Ss := (.cons (.ifs (.cmp (.cmp .Eq (.sub (.var 0) (.int 0)) (.lst .nil)))
  (.cons (.setSub (.var 0) (.int 1) (.bin .Mod (.bin .Mult (.sub (.var 0) (.int 1)) (.int 48271)) (.int 2147483647)))
  (.cons (.ret (.bin .Mod (.bin .FloorDiv (.sub (.var 0) (.int 1)) (.int 7)) (.var 1)))
  .nil))
  .nil)
  (.cons (.set 2 (.sub (.sub (.var 0) (.int 0)) (.int 0)))
  (.cons (.setSub (.sub (.var 0) (.int 0)) (.int 0) (.bin .FloorDiv (.var 2) (.var 1)))
  (.cons (.ifs (.or2 (.cmp (.cmp .Eq (.sub (.sub (.var 0) (.int 0)) (.int 0)) (.int 0))) (.cmp (.cmp .Eq (.sub (.sub (.var 0) (.int 0)) (.int 0)) (.neg (.int 1)))))
  (.cons (.exp (.meth (.sub (.var 0) (.int 0)) "pop" [.pop, .popAt, .dpop1, .dpop2] (.cons (.int 0) .nil)))
  .nil)
  .nil)
  (.cons (.ret (.bin .Mod (.var 2) (.var 1)))
  .nil)))))
def N_alike : List Str := ["_law_found", "_law_due", "_law_k"]
def b_alike : Ss := (.cons (.ifs (.cmp (.cmp .Is (.var 1) .non))
  (.cons (.ret (.cmp .Is (.var 0) .non))
  .nil)
  .nil)
  (.cons (.ifs (.val (.callB .isinstance (.cons (.var 1) (.cons (.bltn "bool") .nil))))
  (.cons (.ret (.and2 (.callB .isinstance (.cons (.var 0) (.cons (.bltn "bool") .nil))) (.cmp .Eq (.var 0) (.var 1))))
  .nil)
  .nil)
  (.cons (.ifs (.val (.callB .isinstance (.cons (.var 1) (.cons (.bltn "int") .nil))))
  (.cons (.ret (.and2 (.callB .isinstance (.cons (.var 0) (.cons (.bltn "int") .nil))) (.and2 (.nt (.callB .isinstance (.cons (.var 0) (.cons (.bltn "bool") .nil)))) (.cmp .Eq (.var 0) (.var 1)))))
  .nil)
  .nil)
  (.cons (.ifs (.val (.callB .isinstance (.cons (.var 1) (.cons (.bltn "str") .nil))))
  (.cons (.ret (.and2 (.callB .isinstance (.cons (.var 0) (.cons (.bltn "str") .nil))) (.cmp .Eq (.var 0) (.var 1))))
  .nil)
  .nil)
  (.cons (.ifs (.or2 (.cmp (.cmp .NotEq (.callB .isinstance (.cons (.var 1) (.cons (.bltn "tuple") .nil))) (.callB .isinstance (.cons (.var 0) (.cons (.bltn "tuple") .nil))))) (.cmp (.cmp .NotEq (.callB .isinstance (.cons (.var 1) (.cons (.bltn "list") .nil))) (.callB .isinstance (.cons (.var 0) (.cons (.bltn "list") .nil))))))
  (.cons (.ret (.bl false))
  .nil)
  .nil)
  (.cons (.ifs (.cmp (.cmp .NotEq (.callB .len (.cons (.var 0) .nil)) (.callB .len (.cons (.var 1) .nil))))
  (.cons (.ret (.bl false))
  .nil)
  .nil)
  (.cons (.fors (.nm 2) (.rng1 (.callB .len (.cons (.var 1) .nil)))
  (.cons (.ifs (.nt (.val (.call "_law_alike" (.cons (.sub (.var 0) (.var 2)) (.cons (.sub (.var 1) (.var 2)) .nil)))))
  (.cons (.ret (.bl false))
  .nil)
  .nil)
  .nil))
  (.cons (.ret (.bl true))
  .nil))))))))
local macro_rules | `(tactic| walk_at "mem") => `(tactic| (first | exact List.Mem.head _ | (apply List.Mem.tail; walk_at "mem")))
local macro_rules | `(tactic| walk_at "rp") => `(tactic| (first | exact Rp.hd | (apply Rp.tl; walk_at "rp")))
local macro_rules | `(tactic| walk_at "pk") => `(tactic| (first | exact Pk.hd | (apply Pk.tl; walk_at "pk")))
local macro_rules | `(tactic| walk_at "go1") => `(tactic| with_reducible (first
  | refine q_set ?_ | refine q_exp ?_ | refine q_doc ?_ | refine q_pass ?_ | refine q_ret ?_ | refine q_retN ?_ | refine q_brk ?_ | refine q_cont ?_ | refine q_if ?_ | refine q_par ?_ | refine q_setFld ?_ | refine q_setSub ?_ | refine q_for ?_
  | refine e_int ?_ | refine e_str ?_ | refine e_bl ?_ | refine e_non ?_ | refine e_bin ?_ | refine e_neg ?_ | refine e_nt ?_ | refine e_cmp ?_ | refine e_chain ?_ | refine e_and ?_ | refine e_or ?_ | refine e_ife ?_ | refine e_fld ?_ | refine e_sub ?_ | refine e_tup ?_ | refine e_lst ?_ | refine e_bi ?_ | refine e_meth ?_
  | refine es_nil ?_ | refine es_cons ?_ | refine t_yes ?_ | refine t_nt ?_ | refine t_and ?_ | refine t_or ?_ | refine t_cmp ?_ | refine t_val ?_ | refine i_seq ?_ | refine i_rng ?_
  | refine x_bl ?_ | refine x_in ?_ | refine tr_bl ?_ | refine tr_int ?_ | refine tr_non ?_
  | refine b_add ?_ | refine b_sub ?_ | refine c_lt ?_ | refine c_le ?_ | refine c_gt ?_ | refine c_ge ?_ | refine c_is ?_ | refine c_isnt ?_ | refine i_intB ?_ | refine c_eqI ?_ | refine c_neI ?_ | refine c_eqB ?_ | refine c_neB ?_ | refine c_eqS ?_ | refine q_nil ?_ | refine x_itt ?_ | refine x_iff ?_))
local macro_rules | `(tactic| walk_at "go2") => `(tactic| (first
  | ((with_reducible refine' e_var ?hg ?hh); (case hg => rfl))
  | ((with_reducible refine' s_0 ?hx ?hm ?hg ?hh); (case hx => assumption); (case hm => walk_at "mem"); (case hg => rfl))
  | ((with_reducible refine' s_1 ?hx ?hm ?hg ?hh); (case hx => assumption); (case hm => walk_at "mem"); (case hg => rfl))
  | ((with_reducible refine' s_2 ?hx ?hm ?hg ?hh); (case hx => assumption); (case hm => walk_at "mem"); (case hg => rfl))
  | ((with_reducible refine' p_0 ?hx ?hr ?hb ?hh); (case hx => assumption); (case hr => walk_at "rp"); (case hb => first | (simp; done) | decide); intros)
  | ((with_reducible refine' p_1 ?hx ?hr ?hb ?hh); (case hx => assumption); (case hr => walk_at "rp"); (case hb => first | (simp; done) | decide); intros)
  | ((with_reducible refine' n_lst ?hx ?hb ?hh); (case hx => assumption); (case hb => first | decide | (simp only [List.length_cons, List.length_nil]; decide)); intros)
  | ((with_reducible refine' n_tup ?hx ?hb ?hh); (case hx => assumption); (case hb => first | decide | (simp only [List.length_cons, List.length_nil]; decide)); intros)))
local macro_rules | `(tactic| walk_at "go") => `(tactic| repeat (first | walk_at "go1" | walk_at "go2"))
def BoxA (a : Addr) : HP := fun h => ∃ p ns z, SL [pt a (.lst [.ref p, .int z]), pt p (.lst (List.map V.int ns))] h
def spTake : Sp := fun vs H Q _ => ∃ a n l, vs = [.ref a, .int n] ∧ 0 < n ∧ n.natAbs.log2 < 9000 ∧ SL (BoxA a :: l) H ∧ ∀ H' i, 0 ≤ i → i < n → SL (BoxA a :: l) H' → Q (.int i) H'
theorem BoxA.of {a p : Addr} {z : Int} {ns : List Int} {l : List HP} {H : Hp} (x : SL (pt a (.lst [.ref p, .int z]) :: pt p (.lst (List.map V.int ns)) :: l) H) : SL (BoxA a :: l) H :=
  (SL.unnest (m := [_, _]) x).imp fun h y => ⟨p, ns, z, y⟩
theorem dp_ints {K : PySem.W.Frag} {H : Hp} : ∀ ns : List Int, DpAll K H (ns.map V.int) (ns.map PyData.int)
  | [] => .nil
  | _ :: r => .cons (.int _) (dp_ints r)
theorem lay_ints : ∀ ns : List Int, PyData.canLayAll0 (ns.map PyData.int) = true
  | [] => rfl
  | _ :: r => by simp [PyData.canLayAll0, PyData.canLay0, lay_ints r]
theorem dep_ints : ∀ ns : List Int, PyData.depthAll (ns.map PyData.int) = 0
  | [] => rfl
  | _ :: r => by simp [PyData.depthAll, PyData.depth, dep_ints r]
theorem c_nilI {K : PySem.W.Frag} {H : Hp} {Q : VK} {p q : Addr} {ns : List Int} (ep : SqL K H p (ns.map V.int)) (eq : SqL K H q []) (h : Q (.bl ns.isEmpty) H) : rCmp K .Eq (.ref p) (.ref q) H Q := by
  refine c_eqD (.lst ep (dp_ints ns)) (.lst eq .nil) ?_ (by decide +kernel) ?_
  · unfold SeqAt.shaped
    simp [PyData.canLay0, lay_ints, PyData.depth, dep_ints]
  · have : PyData.eqv (.list (ns.map PyData.int)) (.list []) = ns.isEmpty := by
      cases ns <;> simp [PyData.eqv, PyData.eqvAll]
    rw [this]
    exact h
theorem w_take {R : Rx} {k : Nat} {vs : List V} {H : Hp} {Q : VK} {X : XK} (h : spTake vs H Q X) : wSs R k b_take (fun cls d _ H' => X cls d H') { nx := fun _ H' => Q .non H', rt := Q } (L2.start N_take vs) H := by
  obtain ⟨a, n, l, rfl, hn, hb, x, hq⟩ := h
  obtain ⟨p, x⟩ := x.ex
  obtain ⟨ns, x⟩ := x.ex
  obtain ⟨z, x⟩ := x.ex
  have x : SL (pt a (.lst [.ref p, .int z]) :: pt p (.lst (List.map V.int ns)) :: l) H := x.nest
  show wSs R k b_take _ _ [some (.ref a), some (.int n), none] H
  unfold b_take
  walk_at "go"
  rename_i q H1 x1
  refine c_nilI (sq_l (SL.get (by walk_at "mem") x1)) (sq_l (SL.get (by walk_at "mem") x1)) ?_
  walk_at "go"
  cases ns with
  | nil =>
    refine x_ite (fun _ => ?_) (fun c => by cases c)
    walk_at "go"
    refine b_mul (.inr ⟨by decide, by decide⟩) ?_
    walk_at "go"
    refine b_mod (by decide) ?_
    walk_at "go"
    walk_at "go"
    refine b_div ⟨by decide, by decide⟩ ?_
    walk_at "go"
    refine b_mod hn ?_
    rename_i H2 x2
    have y : SL (BoxA a :: l) H2 := BoxA.of (ns := []) x2.tail
    exact hq H2 _ (Int.emod_nonneg _ (by omega)) (Int.emod_lt_of_pos _ hn) y
  | cons i ns =>
    refine x_ite (fun c => by cases c) (fun _ => ?_)
    walk_at "go"
    refine b_div ⟨hn, hb⟩ ?_
    walk_at "go"
    rename_i H2 x2
    have fin : ∀ (ms : List Int) H', SL (pt q (.lst []) :: pt a (.lst [.ref p, .int z]) :: pt p (.lst (List.map V.int ms)) :: l) H' → Q (.int (i % n)) H' := fun ms H' y =>
      hq H' _ (Int.emod_nonneg _ (by omega)) (Int.emod_lt_of_pos _ hn) (BoxA.of y.tail)
    refine x_ite (fun _ => ?_) (fun _ => ?_)
    · walk_at "go"
      refine x_bm .popAt (by decide) (ty_l (sq_l (SL.get (by walk_at "mem") x2))) ?_
      walk_at "go"
      refine m_pop0 x2 (by walk_at "rp") fun H3 x3 => ?_
      walk_at "go"
      refine b_mod hn ?_
      exact fin _ _ x3
    · walk_at "go"
      refine x_ite (fun _ => ?_) (fun _ => ?_)
      · walk_at "go"
        refine x_bm .popAt (by decide) (ty_l (sq_l (SL.get (by walk_at "mem") x2))) ?_
        walk_at "go"
        refine m_pop0 x2 (by walk_at "rp") fun H3 x3 => ?_
        walk_at "go"
        refine b_mod hn ?_
        exact fin _ _ x3
      · walk_at "go"
        refine b_mod hn ?_
        exact fin ((i / n) :: ns) _ x2
end Zw
set_option Elab.async false
set_option linter.all false
set_option maxRecDepth 100000
set_option maxHeartbeats 4000000
namespace Zw
open PySem PySem.Spec PyProof.Rows L2
local macro_rules | `(tactic| walk_at "mem") => `(tactic| (first | exact List.Mem.head _ | (apply List.Mem.tail; walk_at "mem")))
local macro_rules | `(tactic| walk_at "rp") => `(tactic| (first | exact Rp.hd | (apply Rp.tl; walk_at "rp")))
local macro_rules | `(tactic| walk_at "pk") => `(tactic| (first | exact Pk.hd | (apply Pk.tl; walk_at "pk")))
local macro_rules | `(tactic| walk_at "go1") => `(tactic| with_reducible (first
  | refine q_set ?_ | refine q_exp ?_ | refine q_doc ?_ | refine q_pass ?_ | refine q_ret ?_ | refine q_retN ?_ | refine q_brk ?_ | refine q_cont ?_ | refine q_if ?_ | refine q_par ?_ | refine q_setFld ?_ | refine q_setSub ?_ | refine q_for ?_
  | refine e_int ?_ | refine e_str ?_ | refine e_bl ?_ | refine e_non ?_ | refine e_bin ?_ | refine e_neg ?_ | refine e_nt ?_ | refine e_cmp ?_ | refine e_chain ?_ | refine e_and ?_ | refine e_or ?_ | refine e_ife ?_ | refine e_fld ?_ | refine e_sub ?_ | refine e_tup ?_ | refine e_lst ?_ | refine e_bi ?_ | refine e_meth ?_
  | refine es_nil ?_ | refine es_cons ?_ | refine t_yes ?_ | refine t_nt ?_ | refine t_and ?_ | refine t_or ?_ | refine t_cmp ?_ | refine t_val ?_ | refine i_seq ?_ | refine i_rng ?_
  | refine x_bl ?_ | refine x_in ?_ | refine tr_bl ?_ | refine tr_int ?_ | refine tr_non ?_
  | refine b_add ?_ | refine b_sub ?_ | refine c_lt ?_ | refine c_le ?_ | refine c_gt ?_ | refine c_ge ?_ | refine c_is ?_ | refine c_isnt ?_ | refine i_intB ?_ | refine c_eqI ?_ | refine c_neI ?_ | refine c_eqB ?_ | refine c_neB ?_ | refine c_eqS ?_ | refine q_nil ?_ | refine x_itt ?_ | refine x_iff ?_))
local macro_rules | `(tactic| walk_at "go2") => `(tactic| (first
  | ((with_reducible refine' e_var ?hg ?hh); (case hg => rfl))
  | ((with_reducible refine' s_0 ?hx ?hm ?hg ?hh); (case hx => assumption); (case hm => walk_at "mem"); (case hg => rfl))
  | ((with_reducible refine' s_1 ?hx ?hm ?hg ?hh); (case hx => assumption); (case hm => walk_at "mem"); (case hg => rfl))
  | ((with_reducible refine' s_2 ?hx ?hm ?hg ?hh); (case hx => assumption); (case hm => walk_at "mem"); (case hg => rfl))
  | ((with_reducible refine' p_0 ?hx ?hr ?hb ?hh); (case hx => assumption); (case hr => walk_at "rp"); (case hb => first | (simp; done) | decide); intros)
  | ((with_reducible refine' p_1 ?hx ?hr ?hb ?hh); (case hx => assumption); (case hr => walk_at "rp"); (case hb => first | (simp; done) | decide); intros)
  | ((with_reducible refine' n_lst ?hx ?hb ?hh); (case hx => assumption); (case hb => first | decide | (simp only [List.length_cons, List.length_nil]; decide)); intros)
  | ((with_reducible refine' n_tup ?hx ?hb ?hh); (case hx => assumption); (case hb => first | decide | (simp only [List.length_cons, List.length_nil]; decide)); intros)))
local macro_rules | `(tactic| walk_at "go") => `(tactic| repeat (first | walk_at "go1" | walk_at "go2"))
def spBegun (K : PySem.W.Frag) : Sp := fun vs H Q _ => ∃ (a : Addr) (ns : List Int) (l : List HP), vs = [.ref a] ∧ ns.length ≤ sizeLine ∧ SL l H ∧ (∀ H', SL l H' → SqL K H' a (ns.map V.int)) ∧ ∀ b H', SL (BoxA b :: l) H' → Q (.ref b) H'
theorem w_begun {R : Rx} {k : Nat} {vs : List V} {H : Hp} {Q : VK} {X : XK} (h : spBegun R.K vs H Q X) : wSs R k b_begun (fun cls d _ H' => X cls d H') { nx := fun _ H' => Q .non H', rt := Q } (L2.start N_begun vs) H := by
  obtain ⟨a, ns, l, rfl, hl, x, m, hq⟩ := h
  show wSs R k b_begun _ _ [some (.ref a), none, none] H
  unfold b_begun
  walk_at "go"
  refine l_lst (fun _ σ H => SL l H ∧ ∃ z c, σ = [some (.ref a), some (.int z), c]) (m _ x) ⟨x, 0, _, rfl⟩ (fun j σ H i => m _ i.1) (fun j v σ H hv i => ?_) fun σ H i => ?_
  · obtain ⟨x1, z, c, rfl⟩ := i
    rw [List.getElem?_map] at hv
    cases hj : ns[j]? with
    | none => rw [hj] at hv; cases hv
    | some y =>
      rw [hj] at hv
      cases hv
      walk_at "go"
      refine b_mul (.inr ⟨by decide, by decide⟩) ?_
      walk_at "go"
      refine b_mul (.inr ⟨by decide, by decide⟩) ?_
      walk_at "go"
      refine b_mod (by decide) ?_
      walk_at "go"
      exact ⟨x1, _, _, rfl⟩
  · obtain ⟨x1, z, c, rfl⟩ := i
    walk_at "go"
    refine i_list (m _ x1) (n_o x1 fun p H2 x2 => ?_)
    walk_at "go"
    refine i_len (len_l (m _ x2.tail)) ?_
    walk_at "go"
    refine b_mul (.inr ?_) ?_
    · split <;> exact ⟨by decide, by decide⟩
    walk_at "go"
    rename_i b H3 x3
    exact hq b H3 (BoxA.of x3)
theorem fn_begun {R : Rt} {st : Stmt} {qual : Str} {f : Addr} {fd : FuncData} {k : Nat} (F : Fun R.K "_law_begun" qual st f fd) (blt : ∀ x ∈ bltNames, R.mg x = none)
    (S : scopeB N_begun ["_law_script"] (defScope st) = true) (hc : cSs N_begun 60 .no (defScope st) (defBody st) = some b_begun) : FnOk R.P R.w R.K R.mg R.base (L2.CX R.P R.w) (k + 1) f fd ["_law_script"] (spBegun R.K) := by
  refine fn_wp F S hc blt (fun vs H Q E h => ?_) fun vs H Q E h => ?_
  · obtain ⟨a, _, _, rfl, _⟩ := h
    rfl
  · exact w_begun (R := ⟨R, [], fun _ _ _ => False, none⟩) h
theorem fn_take {R : Rt} {st : Stmt} {qual : Str} {f : Addr} {fd : FuncData} {k : Nat} (F : Fun R.K "_law_take" qual st f fd) (blt : ∀ x ∈ bltNames, R.mg x = none)
    (S : scopeB N_take ["_law_box", "_law_many"] (defScope st) = true) (hc : cSs N_take 60 .no (defScope st) (defBody st) = some b_take) : FnOk R.P R.w R.K R.mg R.base (L2.CX R.P R.w) (k + 1) f fd ["_law_box", "_law_many"] spTake := by
  refine fn_wp F S hc blt (fun vs H Q E h => ?_) fun vs H Q E h => ?_
  · obtain ⟨a, n, _, rfl, _⟩ := h
    rfl
  · exact w_take (R := ⟨R, [], fun _ _ _ => False, none⟩) h
/-- kinds of plain values -/
inductive Kd where
  | non | bl | int | str | lst | tup | dct
  deriving DecidableEq
def Kd.nm : Kd → String
  | .non => "NoneType" | .bl => "bool" | .int => "int" | .str => "str" | .lst => "list" | .tup => "tuple" | .dct => "dict"
def kd : PyData → Kd
  | .none => .non | .bool _ => .bl | .int _ => .int | .str _ => .str | .list _ => .lst | .tuple _ => .tup | .dict _ => .dct
theorem dp_ty {K : PySem.W.Frag} {H : Hp} {v : V} {d : PyData} (h : Dp K H v d) : TyX K H v (.type (kd d).nm) := by
  cases h with
  | non => exact .base .non
  | bl b => exact .base (.bl b)
  | int i => exact .base (.int i)
  | str x => exact .base (.str x)
  | lst s _ =>
    rcases s with (s | ⟨o, s⟩) | ⟨o, its, n, s, c, _⟩
    · exact .base (.lst s)
    · exact .base (.frz s)
    · exact .kList s c
  | tup s _ =>
    rcases s with (s | ⟨o, s⟩) | ⟨o, its, n, s, c, _⟩
    · exact .base (.tup s)
    · exact .fTuple s
    · exact .kTuple s c
theorem isi_dp {K : PySem.W.Frag} {xc : XC} {H : Hp} {v : V} {d : PyData} {b : String} {Q : VK} {g : Kd → Bool} (ok : ∀ t : Kd, kitB t.nm b = some (g t)) (hd : Dp K H v d) (h : Q (.bl (g (kd d))) H) : rBi K xc .isinstance [v, .ty b] H Q :=
  i_isi (.ty b) (dp_ty hd) (kit_ty (ok _)) h
def gBl : Kd → Bool | .bl => true | _ => false
def gInt : Kd → Bool | .bl => true | .int => true | _ => false
def gStr : Kd → Bool | .str => true | _ => false
def gTup : Kd → Bool | .tup => true | _ => false
def gLst : Kd → Bool | .lst => true | _ => false
theorem ok_bl (t : Kd) : kitB t.nm "bool" = some (gBl t) := by cases t <;> decide +kernel
theorem ok_int (t : Kd) : kitB t.nm "int" = some (gInt t) := by cases t <;> decide +kernel
theorem ok_str (t : Kd) : kitB t.nm "str" = some (gStr t) := by cases t <;> decide +kernel
theorem ok_tup (t : Kd) : kitB t.nm "tuple" = some (gTup t) := by cases t <;> decide +kernel
theorem ok_lst (t : Kd) : kitB t.nm "list" = some (gLst t) := by cases t <;> decide +kernel
theorem e_ty {R : Rx} {k : Nat} {W : WX} {σ : L2.St} {H : Hp} {Q : VK} {x : Str} {n : String} (hx : bootBuiltins x = some (.type n)) (h : Q (.ty n) H) : wE R k (.bltn x) W σ H Q := e_bltn (v := .ty n) hx (show L2.RelV (.ty n) _ from rfl) h
local macro_rules | `(tactic| walk_at "go2") => `(tactic| (first
  | ((with_reducible refine' e_ty ?hg ?hh); (case hg => rfl))
  | ((with_reducible refine' isi_dp ok_bl ?hx ?hh); (case hx => assumption))
  | ((with_reducible refine' isi_dp ok_int ?hx ?hh); (case hx => assumption))
  | ((with_reducible refine' isi_dp ok_str ?hx ?hh); (case hx => assumption))
  | ((with_reducible refine' isi_dp ok_tup ?hx ?hh); (case hx => assumption))
  | ((with_reducible refine' isi_dp ok_lst ?hx ?hh); (case hx => assumption))
  | ((with_reducible refine' x_dt ?hc ?hh); (case hc => rfl))
  | ((with_reducible refine' x_df ?hc ?hh); (case hc => rfl))))
mutual
def szB : PyData → Bool
  | .list xs | .tuple xs => decide (xs.length ≤ sizeLine) && szAll xs
  | .none | .bool _ | .int _ | .str _ => true
  | .dict _ => false
def szAll : List PyData → Bool
  | [] => true
  | x :: r => szB x && szAll r
end
def spAlike (K : PySem.W.Frag) (n : Nat) : Sp := fun vs H Q _ => ∃ x y d e, vs = [x, y] ∧ Dp K H x d ∧ Dp K H y e ∧ szB e = true ∧ e.depth ≤ n ∧ ∀ b : Bool, (b = true ↔ d = e) → Q (.bl b) H
def Sq (K : PySem.W.Frag) (H : Hp) (p : Addr) (xs : List V) : Prop := SqL K H p xs ∨ SqT K H p xs
section
variable {K : PySem.W.Frag} {xc : XC} {H : Hp} {Q : VK} {p : Addr} {xs : List V}
theorem sq_len (s : Sq K H p xs) (h : Q (.int xs.length) H) : rBi K xc .len [.ref p] H Q := s.elim (fun s => i_len (len_l s) h) fun s => i_len (len_t s) h
theorem sq_at {i : Nat} {v : V} (s : Sq K H p xs) (g : xs[i]? = some v) (h : Q v H) : rSubs K (.ref p) (.int (i : Nat)) H Q := s.elim (fun s => s_lst s g h) fun s => s_tup s g h
theorem DpAll.len' : ∀ {xs : List V} {ds : List PyData}, DpAll K H xs ds → xs.length = ds.length
  | _, _, .nil => rfl
  | _, _, .cons _ t => congrArg Nat.succ (DpAll.len' t)
theorem DpAll.at' : ∀ {xs : List V} {ds : List PyData} {i : Nat}, DpAll K H xs ds → i < xs.length → ∃ v d, xs[i]? = some v ∧ ds[i]? = some d ∧ Dp K H v d
  | _, _, i, .nil, h => absurd h (Nat.not_lt_zero _)
  | _, _, 0, .cons a t, _ => ⟨_, _, rfl, rfl, a⟩
  | _, _, i + 1, .cons a t, h => by
    obtain ⟨v, d, h1, h2, h3⟩ := DpAll.at' (i := i) t (Nat.lt_of_succ_lt_succ h)
    exact ⟨v, d, by simpa using h1, by simpa using h2, h3⟩
end
theorem szAll_at : ∀ {es : List PyData} {i : Nat} {e : PyData}, szAll es = true → es[i]? = some e → szB e = true
  | [], _, _, _, h => by simp at h
  | _ :: _, 0, _, s, h => by
    simp [szAll] at s h
    rw [← h]; exact s.1
  | _ :: r, i + 1, _, s, h => by
    simp [szAll] at s h
    exact szAll_at s.2 h
theorem dep_at : ∀ {es : List PyData} {i : Nat} {e : PyData}, es[i]? = some e → e.depth ≤ PyData.depthAll es
  | [], _, _, h => by simp at h
  | _ :: _, 0, _, h => by
    simp at h
    rw [← h]
    unfold PyData.depthAll
    exact Nat.le_max_left _ _
  | _ :: r, i + 1, _, h => by
    have := dep_at (es := r) (i := i) (by simpa using h)
    unfold PyData.depthAll
    exact Nat.le_trans this (Nat.le_max_right _ _)
abbrev b_alikeT : Ss := (.cons (.ifs (.cmp (.cmp .NotEq (.callB .len (.cons (.var 0) .nil)) (.callB .len (.cons (.var 1) .nil))))
  (.cons (.ret (.bl false))
  .nil)
  .nil)
  (.cons (.fors (.nm 2) (.rng1 (.callB .len (.cons (.var 1) .nil)))
  (.cons (.ifs (.nt (.val (.call "_law_alike" (.cons (.sub (.var 0) (.var 2)) (.cons (.sub (.var 1) (.var 2)) .nil)))))
  (.cons (.ret (.bl false))
  .nil)
  .nil)
  .nil))
  (.cons (.ret (.bl true))
  .nil)))
theorem w_alikeT {R : Rx} {k m : Nat} {H : Hp} {Q : VK} {W : WX} {N : L2.St → Hp → Prop} {p q : Addr} {xs ys : List V} {ds es : List PyData} (sx : Sq R.K H p xs) (sy : Sq R.K H q ys) (ax : DpAll R.K H xs ds) (ay : DpAll R.K H ys es) (hl : es.length ≤ sizeLine) (sz : szAll es = true) (dep : PyData.depthAll es ≤ m)
    (A : ∃ f, R.mg "_law_alike" = some (.ref f) ∧ PySem.W.keepIn R.K (.ref f) = true ∧ CallOk R.toRt k f (spAlike R.K m)) (hq : ∀ b : Bool, (b = true ↔ ds = es) → Q (.bl b) H) :
    wSs R k b_alikeT W { nx := N, rt := Q } [some (.ref p), some (.ref q), none] H := by
  obtain ⟨f, a1, a2, a3⟩ := A
  have lx := DpAll.len' ax
  have ly := DpAll.len' ay
  walk_at "go"
  refine sq_len sx ?_
  walk_at "go"
  refine sq_len sy ?_
  walk_at "go"
  refine x_ite (fun c => ?_) (fun c => ?_)
  · walk_at "go"
    refine hq false ⟨fun z => (by cases z), fun z => ?_⟩
    subst z
    simp at c
    omega
  · have hn : xs.length = ys.length := by
      simp at c
      omega
    walk_at "go"
    refine sq_len sy ?_
    refine l_rng (fun j σ H' => H' = H ∧ (∃ c, σ = [some (.ref p), some (.ref q), c]) ∧ ∀ i, i < j → ds[i]? = es[i]?) ?_ ⟨rfl, ⟨_, rfl⟩, fun i h => absurd h (Nat.not_lt_zero _)⟩ (fun j σ H' hj I => ?_) fun σ H' I => ?_
    · have := L2.line63
      have e : sizeLine = 16777216 := sizeLine_eq
      omega
    · obtain ⟨rfl, ⟨c, rfl⟩, pre⟩ := I
      obtain ⟨v, d, v1, v2, v3⟩ := DpAll.at' (i := j) ax (by omega)
      obtain ⟨u, e, u1, u2, u3⟩ := DpAll.at' (i := j) ay (by omega)
      walk_at "go"
      refine e_call a1 a2 ?_
      walk_at "go"
      refine sq_at sx v1 ?_
      walk_at "go"
      refine sq_at sy u1 ?_
      walk_at "go"
      refine x_sp a3 ⟨v, u, d, e, rfl, v3, u3, szAll_at sz u2, Nat.le_trans (dep_at u2) dep, fun b hb => ?_⟩
      walk_at "go"
      cases b with
      | true =>
        walk_at "go"
        refine ⟨rfl, ⟨_, rfl⟩, fun i hi => ?_⟩
        by_cases hi' : i < j
        · exact pre i hi'
        · have : i = j := by omega
          subst this
          rw [v2, u2, hb.mp rfl]
      | false =>
        walk_at "go"
        refine hq false ⟨fun z => (by cases z), fun z => ?_⟩
        subst z
        rw [v2] at u2
        cases u2
        exact hb.mpr rfl
    · obtain ⟨rfl, ⟨c, rfl⟩, pre⟩ := I
      walk_at "go"
      refine hq true ⟨fun _ => ?_, fun _ => rfl⟩
      apply List.ext_getElem?
      intro i
      by_cases hi : i < ys.length
      · exact pre i hi
      · rw [List.getElem?_eq_none_iff.mpr (by omega), List.getElem?_eq_none_iff.mpr (by omega)]
theorem w_alike {R : Rx} {k n : Nat} {vs : List V} {H : Hp} {Q : VK} {X : XK} (A : ∀ m, n = m + 1 → ∃ f, R.mg "_law_alike" = some (.ref f) ∧ PySem.W.keepIn R.K (.ref f) = true ∧ CallOk R.toRt k f (spAlike R.K m)) (h : spAlike R.K n vs H Q X) :
    wSs R k b_alike (fun cls d _ H' => X cls d H') { nx := fun _ H' => Q .non H', rt := Q } (L2.start N_alike vs) H := by
  obtain ⟨x, y, d, e, rfl, hd, he, sz, dep, hq⟩ := h
  show wSs R k b_alike _ _ [some x, some y, none] H
  unfold b_alike
  have he' := he
  have hd' := hd
  cases he with
  | non => walk_at "go"; cases hd <;> exact hq _ (by simp)
  | bl b => walk_at "go"; cases hd <;> walk_at "go" <;> exact hq _ (by simp [gBl, kd])
  | int i => walk_at "go"; cases hd <;> walk_at "go" <;> exact hq _ (by simp [gBl, gInt, kd])
  | str z => walk_at "go"; cases hd <;> walk_at "go" <;> exact hq _ (by simp [gStr, kd])
  | lst s a =>
    rename_i q ys es
    walk_at "go"
    cases hd
    case lst p xs ds s2 a2 =>
      unfold szB at sz
      unfold PyData.depth at dep
      simp only [Bool.and_eq_true, decide_eq_true_eq] at sz
      have hh : wSs R k b_alikeT (fun cls d _ H' => X cls d H') { nx := fun x H' => Q V.non H', rt := Q } [some (.ref p), some (.ref q), none] H :=
        w_alikeT (m := n - 1) (.inl s2) (.inl s) a2 a sz.1 sz.2 (by omega) (A (n - 1) (by omega)) fun b hb => hq b (by rw [hb]; exact ⟨fun h => by rw [h], fun h => by cases h; rfl⟩)
      repeat (first | (with_reducible exact hh) | walk_at "go1" | walk_at "go2")
    all_goals walk_at "go"
    all_goals exact hq _ (by simp [gTup, gLst, kd])
  | tup s a =>
    rename_i q ys es
    walk_at "go"
    cases hd
    case tup p xs ds s2 a2 =>
      unfold szB at sz
      unfold PyData.depth at dep
      simp only [Bool.and_eq_true, decide_eq_true_eq] at sz
      have hh : wSs R k b_alikeT (fun cls d _ H' => X cls d H') { nx := fun x H' => Q V.non H', rt := Q } [some (.ref p), some (.ref q), none] H :=
        w_alikeT (m := n - 1) (.inr s2) (.inr s) a2 a sz.1 sz.2 (by omega) (A (n - 1) (by omega)) fun b hb => hq b (by rw [hb]; exact ⟨fun h => by rw [h], fun h => by cases h; rfl⟩)
      repeat (first | (with_reducible exact hh) | walk_at "go1" | walk_at "go2")
    all_goals walk_at "go"
    all_goals exact hq _ (by simp [gTup, gLst, kd])
/-- alike at every depth -/
theorem fn_alike {R : Rt} {st : Stmt} {qual : Str} {f : Addr} {fd : FuncData} (F : Fun R.K "_law_alike" qual st f fd) (hb : Binds R.K fd ["_law_found", "_law_due"] []) (hf : R.mg "_law_alike" = some (.ref f)) (hk : PySem.W.keepIn R.K (.ref f) = true) (blt : ∀ x ∈ bltNames, R.mg x = none)
    (S : scopeB N_alike ["_law_found", "_law_due"] (defScope st) = true) (hc : cSs N_alike 60 .no (defScope st) (defBody st) = some b_alike) :
    ∀ n, FnOk R.P R.w R.K R.mg R.base (L2.CX R.P R.w) (n + 1) f fd ["_law_found", "_law_due"] (spAlike R.K n)
  | n => by
    refine fn_wp F S hc blt (fun vs H Q E h => ?_) fun vs H Q E h => ?_
    · obtain ⟨x, y, _, _, rfl, _⟩ := h
      rfl
    · refine w_alike (R := ⟨R, [], fun _ _ _ => False, none⟩) (fun m hm => ?_) h
      subst hm
      exact ⟨f, hf, hk, CallOk.fn (fn_alike F hb hf hk blt S hc m) hb (Nat.le_refl _)⟩
end Zw
set_option Elab.async false
set_option linter.all false
set_option maxRecDepth 100000
set_option maxHeartbeats 4000000
namespace Zw
open PySem PySem.Spec PyProof.Rows L2
local macro_rules | `(tactic| walk_at "mem") => `(tactic| (first | exact List.Mem.head _ | (apply List.Mem.tail; walk_at "mem")))
local macro_rules | `(tactic| walk_at "rp") => `(tactic| (first | exact Rp.hd | (apply Rp.tl; walk_at "rp")))
local macro_rules | `(tactic| walk_at "pk") => `(tactic| (first | exact Pk.hd | (apply Pk.tl; walk_at "pk")))
local macro_rules | `(tactic| walk_at "go1") => `(tactic| with_reducible (first
  | refine q_set ?_ | refine q_exp ?_ | refine q_doc ?_ | refine q_pass ?_ | refine q_ret ?_ | refine q_retN ?_ | refine q_brk ?_ | refine q_cont ?_ | refine q_if ?_ | refine q_par ?_ | refine q_setFld ?_ | refine q_setSub ?_ | refine q_for ?_
  | refine e_int ?_ | refine e_str ?_ | refine e_bl ?_ | refine e_non ?_ | refine e_bin ?_ | refine e_neg ?_ | refine e_nt ?_ | refine e_cmp ?_ | refine e_chain ?_ | refine e_and ?_ | refine e_or ?_ | refine e_ife ?_ | refine e_fld ?_ | refine e_sub ?_ | refine e_tup ?_ | refine e_lst ?_ | refine e_bi ?_ | refine e_meth ?_
  | refine es_nil ?_ | refine es_cons ?_ | refine t_yes ?_ | refine t_nt ?_ | refine t_and ?_ | refine t_or ?_ | refine t_cmp ?_ | refine t_val ?_ | refine i_seq ?_ | refine i_rng ?_
  | refine x_bl ?_ | refine x_in ?_ | refine tr_bl ?_ | refine tr_int ?_ | refine tr_non ?_
  | refine b_add ?_ | refine b_sub ?_ | refine c_lt ?_ | refine c_le ?_ | refine c_gt ?_ | refine c_ge ?_ | refine c_is ?_ | refine c_isnt ?_ | refine i_intB ?_ | refine c_eqI ?_ | refine c_neI ?_ | refine c_eqB ?_ | refine c_neB ?_ | refine c_eqS ?_ | refine q_nil ?_ | refine x_itt ?_ | refine x_iff ?_))
local macro_rules | `(tactic| walk_at "go2") => `(tactic| (first
  | ((with_reducible refine' e_var ?hg ?hh); (case hg => rfl))
  | ((with_reducible refine' s_0 ?hx ?hm ?hg ?hh); (case hx => assumption); (case hm => walk_at "mem"); (case hg => rfl))
  | ((with_reducible refine' s_1 ?hx ?hm ?hg ?hh); (case hx => assumption); (case hm => walk_at "mem"); (case hg => rfl))
  | ((with_reducible refine' s_2 ?hx ?hm ?hg ?hh); (case hx => assumption); (case hm => walk_at "mem"); (case hg => rfl))
  | ((with_reducible refine' p_0 ?hx ?hr ?hb ?hh); (case hx => assumption); (case hr => walk_at "rp"); (case hb => first | (simp; done) | decide); intros)
  | ((with_reducible refine' p_1 ?hx ?hr ?hb ?hh); (case hx => assumption); (case hr => walk_at "rp"); (case hb => first | (simp; done) | decide); intros)
  | ((with_reducible refine' n_lst ?hx ?hb ?hh); (case hx => assumption); (case hb => first | decide | (simp only [List.length_cons, List.length_nil]; decide)); intros)
  | ((with_reducible refine' n_tup ?hx ?hb ?hh); (case hx => assumption); (case hb => first | decide | (simp only [List.length_cons, List.length_nil]; decide)); intros)))
local macro_rules | `(tactic| walk_at "go") => `(tactic| repeat (first | walk_at "go1" | walk_at "go2"))
def N_told : List Str := ["_law_work", "e", "_law_kinds", "_law_words", "_law_word"]
def b_told : Ss := (.cons (.tryAs "VolumeError" 1
  (.cons (.ret (.callL 0))
  .nil)
  (.cons (.set 2 (.lst (.cons (.callB .isinstance (.cons (.var 1) (.cons (.glob "BadNumber") .nil))) (.cons (.callB .isinstance (.cons (.var 1) (.cons (.glob "BadSizes") .nil))) (.cons (.callB .isinstance (.cons (.var 1) (.cons (.glob "BadText") .nil))) (.cons (.callB .isinstance (.cons (.var 1) (.cons (.glob "BadVolume") .nil))) .nil))))))
  (.cons (.set 2 (.bin .Add (.var 2) (.lst (.cons (.callB .isinstance (.cons (.var 1) (.cons (.glob "Full") .nil))) (.cons (.callB .isinstance (.cons (.var 1) (.cons (.glob "Lost") .nil))) (.cons (.callB .isinstance (.cons (.var 1) (.cons (.glob "NoBlock") .nil))) (.cons (.callB .isinstance (.cons (.var 1) (.cons (.glob "NoDisk") .nil))) .nil)))))))
  (.cons (.set 2 (.bin .Add (.var 2) (.lst (.cons (.callB .isinstance (.cons (.var 1) (.cons (.glob "NoVolume") .nil))) (.cons (.callB .isinstance (.cons (.var 1) (.cons (.glob "Stopped") .nil))) .nil)))))
  (.cons (.ifs (.or2 (.cmp (.cmp .NotEq (.meth (.var 2) "count" [.count] (.cons (.bl true) .nil)) (.int 1))) (.nt (.val (.callB .isinstance (.cons (.var 1) (.cons (.bltn "ValueError") .nil))))))
  (.cons (.ret (.tup (.cons (.str "other") (.cons (.int 0) .nil))))
  .nil)
  .nil)
  (.cons (.set 3 (.lst (.cons (.str "BadNumber") (.cons (.str "BadSizes") (.cons (.str "BadText") (.cons (.str "BadVolume") (.cons (.str "Full") (.cons (.str "Lost") (.cons (.str "NoBlock") (.cons (.str "NoDisk") (.cons (.str "NoVolume") .nil)))))))))))
  (.cons (.set 4 (.sub (.bin .Add (.var 3) (.lst (.cons (.str "Stopped") .nil))) (.meth (.var 2) "index" [.index] (.cons (.bl true) .nil))))
  (.cons (.ret (.tup (.cons (.var 4) (.cons (.ife (.cmp (.cmp .Eq (.var 4) (.str "BadText"))) (.fldX (.var 1) "row") (.int 0)) .nil))))
  .nil))))))))
  .nil)
/-- their classes -/
structure Kinds (R : Rt) (VE : Addr) (cls : Str → Addr) : Prop where
  ve : R.mg "VolumeError" = some (.ref VE)
  mg : ∀ x ∈ kindNames, R.mg x = some (.ref (cls x))
  exm : ∀ x ∈ kindNames, PySem.W.exmOne R.K (.ref (cls x)) (.ref VE) = some true
  exc : ∀ x ∈ kindNames, ExcC R.K (cls x)
  isi : ∀ x ∈ kindNames, ∀ y ∈ kindNames, PySem.W.kitOne R.K (.ref (cls x)) (.ref (cls y)) = some (decide (x = y))
  val : ∀ x ∈ kindNames, PySem.W.kitOne R.K (.ref (cls x)) (.type "ValueError") = some true
theorem SL.ext {H1 : Hp} : ∀ {l : List HP} {H : Hp}, (fun h => ∀ a o, H1 a = some o → h a = some o) ∈ l → SL l H → ∀ a o, H1 a = some o → H a = some o
  | A :: l, H, m, ⟨h, g, a, b, d, x, y⟩, p, o, e => by
    cases m with
    | head => exact a p o (x p o e)
    | tail _ m => exact b p o (SL.ext m y p o e)
section
variable {R : Rx} {k : Nat} {W : WX} {σ : L2.St} {H : Hp} {Q : VK} {VE : Addr} {cls : Str → Addr}
theorem e_fldX {a : E} {f : Str} (h : wE R k a W σ H fun x H1 => rFldX R.K R.xc x f H1 Q) : wE R k (.fldX a f) W σ H Q := h
theorem e_kind {x : Str} (KN : Kinds R.toRt VE cls) (m : x ∈ kindNames) (h : Q (.ref (cls x)) H) : wE R k (.glob x) W σ H Q := e_glob (v := .ref (cls x)) (KN.mg x m) rfl h
theorem i_kind {a dd : Addr} {fs : List (Str × V)} {H1 : Hp} {l : List HP} {w y : Str} {c : V} (KN : Kinds R.toRt VE cls) (hx : R.xc = some (a, .ref (cls w), some dd)) (hd : H1 dd = some (.xd fs)) (hs : SL l H) (hl : (fun h => ∀ a o, H1 a = some o → h a = some o) ∈ l) (mw : w ∈ kindNames) (ec : c = .ref (cls y)) (my : y ∈ kindNames) (h : Q (.bl (decide (w = y))) H) : rBi R.K R.xc .isinstance [.ref a, c] H Q := by
  subst ec; rw [hx]; exact i_isE (.inr ⟨dd, fs, rfl, SL.ext hl hs _ _ hd⟩) (KN.exc w mw) (fun u r => r) (KN.isi w mw y my) h
theorem i_val {a dd : Addr} {fs : List (Str × V)} {H1 : Hp} {l : List HP} {w : Str} (KN : Kinds R.toRt VE cls) (hx : R.xc = some (a, .ref (cls w), some dd)) (hd : H1 dd = some (.xd fs)) (hs : SL l H) (hl : (fun h => ∀ a o, H1 a = some o → h a = some o) ∈ l) (mw : w ∈ kindNames) (h : Q (.bl true) H) : rBi R.K R.xc .isinstance [.ref a, .ty "ValueError"] H Q := by
  rw [hx]; exact i_isE (.inr ⟨dd, fs, rfl, SL.ext hl hs _ _ hd⟩) (KN.exc w mw) (fun u r => r) (KN.val w mw) h
end
local macro_rules | `(tactic| walk_at "ik") => `(tactic|
  ((with_reducible refine' i_kind ?hk ?hx ?hd ?hs ?hl ?hw ?he ?hm ?hh); (case hk => assumption); (case hx => assumption); (case hd => assumption); (case hs => assumption); (case hl => walk_at "mem"); (case hw => assumption); (case he => exact rfl); (case hm => walk_at "mem")))
local macro_rules | `(tactic| walk_at "ek") => `(tactic| ((with_reducible refine' e_kind ?hk ?hm ?hh); (case hk => assumption); (case hm => walk_at "mem")))
local macro_rules | `(tactic| walk_at "et") => `(tactic| ((with_reducible refine' e_ty ?hg ?hh); (case hg => rfl)))
local macro_rules | `(tactic| walk_at "iv") => `(tactic| ((with_reducible refine' i_val ?hk ?hx ?hd ?hs ?hl ?hw ?hh); (case hk => assumption); (case hx => assumption); (case hd => assumption); (case hs => assumption); (case hl => walk_at "mem"); (case hw => assumption)))
local macro_rules | `(tactic| walk_at "go3") => `(tactic| repeat (first | walk_at "go1" | walk_at "go2" | walk_at "ek" | walk_at "et" | walk_at "ik" | walk_at "iv"))
/-- a refusal comes: told tells its name -/
def Refuses (cls : Str → Addr) (Q : VK) : XK := fun c d H => ∃ w ∈ kindNames, ∃ v, c = .ref (cls w) ∧ (∃ dd fs, d = some dd ∧ H dd = some (.xd fs) ∧ (w = "BadText" → fs.lookup ("row" : Str) = some v) ∧ (w ≠ "BadText" → v = .int 0)) ∧ ∀ p H', (∀ a o, H a = some o → H' a = some o) → H' p = some (.tup [.str w, v]) → Q (.ref p) H'
def spTold (R : Rt) (k : Nat) (cls : Str → Addr) : Sp := fun vs H Q _ => ∃ f G sp, vs = [.ref f] ∧ G H ∧ LamOk R k f G sp ∧ ∀ E : XK, (∀ c d H', Refuses cls Q c d H' → E c d H') → sp [] H Q E
def kinds (w : Str) : List V := [.bl (decide (w = "BadNumber")), .bl (decide (w = "BadSizes")), .bl (decide (w = "BadText")), .bl (decide (w = "BadVolume"))] ++ [.bl (decide (w = "Full")), .bl (decide (w = "Lost")), .bl (decide (w = "NoBlock")), .bl (decide (w = "NoDisk"))] ++ [.bl (decide (w = "NoVolume")), .bl (decide (w = "Stopped"))]
def wordsV : List V := [.str "BadNumber", .str "BadSizes", .str "BadText", .str "BadVolume", .str "Full", .str "Lost", .str "NoBlock", .str "NoDisk", .str "NoVolume"] ++ [.str "Stopped"]
theorem kinds_count : ∀ w ∈ kindNames, ((kinds w).countP fun z => eqV z (.bl true)) = 1 := by decide +kernel
theorem kinds_flat (w : Str) : (kinds w).all flatV = true := rfl
theorem kinds_at : ∀ w ∈ kindNames, ∃ j ∈ List.range 10, (kinds w)[j]? = some (.bl true) ∧ (∀ m ∈ List.range j, (kinds w)[m]? = some (.bl false)) ∧ wordsV[j]? = some (.str w) := by decide +kernel
theorem w_told {R : Rx} {k : Nat} {VE : Addr} {cls : Str → Addr} {vs : List V} {H : Hp} {Q : VK} {X : XK} (KN : Kinds R.toRt VE cls) (rin : PySem.W.findIn R.K (.ref (cls "BadText")) "row" = some none) (h : spTold R.toRt k cls vs H Q X) :
    wSs R k b_told (fun cls d _ H' => X cls d H') { nx := fun _ H' => Q .non H', rt := Q } (L2.start N_told vs) H := by
  obtain ⟨f, G, sp, rfl, hG, hf, hs⟩ := h
  show wSs R k b_told _ _ [some (.ref f), none, none, none, none] H
  unfold b_told
  refine q_try (.inl KN.ve) ?_
  refine q_ret ⟨f, G, sp, rfl, hG, hf, hs _ fun c d H1 he => ?_⟩
  obtain ⟨w, mw, v, rfl, ⟨dd, fs, rfl, hd, hv1, hv2⟩, hq⟩ := he
  refine ⟨true, KN.exm w mw, fun _ a _ => ?_, fun z => by cases z⟩
  have x1 : SL [fun h => ∀ a o, H1 a = some o → h a = some o] H1 := ⟨H1, fun _ => none, Sub.refl _, (fun _ _ e => by cases e), (fun _ _ _ _ e => by cases e), fun _ _ e => e, trivial⟩
  clear hs hG hf
  show wSs { R.toRt with T := R.T, M := R.M, xc := some (a, .ref (cls w), some dd) } k _ W0 _ [some (.ref f), some (.ref a), none, none, none] H1
  generalize hRR : ({ R.toRt with T := R.T, M := R.M, xc := some (a, .ref (cls w), some dd) } : Rx) = RR
  have KN' : Kinds RR.toRt VE cls := by subst hRR; exact KN
  have rin' : PySem.W.findIn RR.K (.ref (cls "BadText")) "row" = some none := by subst hRR; exact rin
  have hx : RR.xc = some (a, .ref (cls w), some dd) := by subst hRR; rfl
  walk_at "go3"
  rename_i q1 H2 x2 q2 H3 x3
  refine b_cat (SL.get (by walk_at "mem") x3) (SL.get (by walk_at "mem") x3) (by simp only [List.length_cons, List.length_nil]; decide) (n_o x3 fun q3 H4 x4 => ?_)
  walk_at "go3"
  rename_i q4 H5 x5
  refine b_cat (SL.get (by walk_at "mem") x5) (SL.get (by walk_at "mem") x5) (by simp only [List.length_append, List.length_cons, List.length_nil]; decide) (n_o x5 fun q5 H6 x6 => ?_)
  walk_at "go3"
  have k6 : H6 q5 = some (.lst (kinds w)) := SL.get (.head _) x6
  refine x_bm .count (by decide) (ty_l (sq_l k6)) ?_
  walk_at "go3"
  refine ⟨q5, kinds w, .bl true, rfl, rfl, sq_l k6, rfl, kinds_flat w, ?_⟩
  rw [kinds_count w mw]
  walk_at "go3"
  refine x_df rfl ?_
  walk_at "go3"
  refine x_df rfl ?_
  walk_at "go3"
  rename_i q7 H7 x7 q8 H8 x8
  refine b_cat (SL.get (by walk_at "mem") x8) (SL.get (by walk_at "mem") x8) (by decide) (n_o x8 fun q9 H9 x9 => ?_)
  walk_at "go3"
  have k9 : H9 q5 = some (.lst (kinds w)) := SL.get (.tail _ (.tail _ (.tail _ (.head _)))) x9
  have w9 : H9 q9 = some (.lst wordsV) := SL.get (.head _) x9
  obtain ⟨j, _, hj, hlt, hw⟩ := kinds_at w mw
  refine x_bm .index (by decide) (ty_l (sq_l k9)) ?_
  walk_at "go3"
  refine .inl ⟨q5, kinds w, .bl true, j, .bl true, rfl, rfl, sq_l k9, rfl, kinds_flat w, hj, rfl, fun m z' hm hz => ?_, ?_⟩
  · rw [hlt m (List.mem_range.mpr hm)] at hz
    cases hz
    rfl
  refine s_lst (sq_l w9) hw ?_
  walk_at "go3"
  by_cases nb : w = "BadText"
  · subst nb
    refine x_dt (decide_eq_true rfl) ?_
    refine e_fldX ?_
    walk_at "go3"
    refine ⟨a, cls "BadText", dd, fs, v, hx, rfl, KN'.exc _ mw, rin', SL.ext (by walk_at "mem") x9 _ _ hd, hv1 rfl, ?_⟩
    walk_at "go3"
    rename_i p H' x'
    exact hq p H' (SL.ext (by walk_at "mem") x') (SL.get (.head _) x')
  refine x_df (decide_eq_false nb) ?_
  obtain rfl := hv2 nb
  walk_at "go3"
  rename_i p H' x'
  exact hq p H' (SL.ext (by walk_at "mem") x') (SL.get (.head _) x')
theorem fn_told {R : Rt} {st : Stmt} {qual : Str} {f : Addr} {fd : FuncData} {VE : Addr} {cls : Str → Addr} {k : Nat} (F : Fun R.K "_law_told" qual st f fd) (KN : Kinds R VE cls) (rin : PySem.W.findIn R.K (.ref (cls "BadText")) "row" = some none) (blt : ∀ x ∈ bltNames, R.mg x = none)
    (S : scopeB N_told ["_law_work"] (defScope st) = true) (hc : cSs N_told 60 .no (defScope st) (defBody st) = some b_told) : FnOk R.P R.w R.K R.mg R.base (L2.CX R.P R.w) (k + 1) f fd ["_law_work"] (spTold R k cls) := by
  refine fn_wp F S hc blt (fun vs H Q E h => ?_) fun vs H Q E h => ?_
  · obtain ⟨f, _, _, rfl, _⟩ := h
    rfl
  · exact w_told (R := ⟨R, [], fun _ _ _ => False, none⟩) KN rin h
end Zw
set_option Elab.async false
set_option linter.all false
set_option maxRecDepth 100000
set_option maxHeartbeats 4000000
namespace Zw
open PySem PySem.Spec PyProof.Rows L2
section
variable {R : Rx} {k : Nat} {W : WX} {σ : L2.St} {H : Hp} {Q : VK}
/-- behind what is walked: a comprehension of one name, without a test -/
def CompG (R : Rx) (k : Nat) (σ : L2.St) (i : Nat) (elt : E) (Q : VK) (J : It) (H1 : Hp) : Prop := ∀ D, H1 D = none → ∃ W : Nat → Nat → Hp → Prop, (∃ m, W 0 m (upd H1 D (.lst []))) ∧ ∀ t m H, W t m H →
  (J.stop t H ∧ Q (.ref D) H) ∨ (J.go t H ∧ ∃ Nx : Hp → Prop, (∀ H', Nx H' → ∃ m', m' < m ∧ W (t + 1) m' H') ∧ ∀ x H', J.yld t H x H' → wipe ((wipe σ [i]).set i (some x)) [i] = wipe σ [i] ∧
    wE R k elt W0 ((wipe σ [i]).set i (some x)) H' fun y H4 => ∃ acc, H4 D = some (.lst acc) ∧ acc.length < sizeLine ∧ Nx (upd H4 D (.lst (acc ++ [y]))))
theorem e_comp {elt : E} {i : Nat} {it : I} (h : wI R k it W σ H fun J H1 => CompG R k σ i elt Q J H1) : wE R k (.comp elt (.nm i) it .yes [i]) W σ H Q := .inl h
theorem wipe1 (σ : L2.St) (i : Nat) (x : V) : wipe ((wipe σ [i]).set i (some x)) [i] = wipe σ [i] := by
  show ((σ.set i none).set i (some x)).set i none = σ.set i none
  rw [List.set_set, List.set_set]
/-- an element's end: y is put behind acc -/
def CompN (D t : Nat) (L : Nat → List V → List HP) : VK := fun y H4 => ∃ acc, H4 D = some (.lst acc) ∧ acc.length < sizeLine ∧ ∃ acc', acc'.length = t + 1 ∧ SL (pt D (.lst acc') :: L (t + 1) acc') (upd H4 D (.lst (acc ++ [y])))
theorem CompN.of {D t : Nat} {L : Nat → List V → List HP} {acc : List V} {y : V} {H4 : Hp} (ha : acc.length = t) (b : t < sizeLine) (x : SL (pt D (.lst acc) :: L (t + 1) (acc ++ [y])) H4) : CompN D t L y H4 :=
  ⟨acc, SL.get (.head _) x, by omega, acc ++ [y], by simp [ha], x.wr .hd rfl⟩
/-- n turns; L t acc: what stands behind t of them, beside the new list -/
theorem k_gen {elt : E} {i n : Nat} {J : It} (L : Nat → List V → List HP) (x : SL (L 0 []) H)
    (st : ∀ t acc D H, t < n → acc.length = t → SL (pt D (.lst acc) :: L t acc) H → J.go t H ∧ ∀ v H', J.yld t H v H' → wE R k elt W0 ((wipe σ [i]).set i (some v)) H' (CompN D t L))
    (en : ∀ acc D H, acc.length = n → SL (pt D (.lst acc) :: L n acc) H → J.stop n H ∧ Q (.ref D) H) : CompG R k σ i elt Q J H := by
  intro D hD
  refine ⟨fun t m H => t + m = n ∧ ∃ acc, acc.length = t ∧ SL (pt D (.lst acc) :: L t acc) H, ⟨n, by omega, [], rfl, x.new _ hD⟩, fun t m H hw => ?_⟩
  obtain ⟨hm, acc, ha, hx⟩ := hw
  by_cases ht : t < n
  · obtain ⟨h1, h2⟩ := st t acc D H ht ha hx
    exact .inr ⟨h1, fun H' => ∃ acc, acc.length = t + 1 ∧ SL (pt D (.lst acc) :: L (t + 1) acc) H', fun H' hn => ⟨m - 1, by omega, by omega, hn⟩, fun v H' hy => ⟨wipe1 _ _ _, h2 v H' hy⟩⟩
  · have : t = n := by omega
    subst this
    exact .inl (en acc D H ha hx)
/-- over a list that stays as it is -/
theorem k_lst {elt : E} {i : Nat} {p : Addr} {xs : List V} {P : Prop} (L : Nat → List V → List HP) (x : SL (L 0 []) H) (sq : ∀ t acc H, SL (L t acc) H → SqL R.K H p xs)
    (st : ∀ t acc D H v, xs[t]? = some v → acc.length = t → SL (pt D (.lst acc) :: L t acc) H → wE R k elt W0 ((wipe σ [i]).set i (some v)) H (CompN D t L))
    (en : ∀ acc D H, acc.length = xs.length → SL (pt D (.lst acc) :: L xs.length acc) H → Q (.ref D) H) :
    (∃ q, V.ref p = .ref q ∧ (∃ xs, SqL R.K H q xs) ∧ CompG R k σ i elt Q (Itl R.K q) H) ∨ P := by
  refine .inl ⟨p, rfl, ⟨xs, sq _ _ _ x⟩, k_gen (n := xs.length) L x (fun t acc D H ht ha hx => ?_) fun acc D H ha hx => ?_⟩
  · have s1 := sq _ _ _ hx.tail
    refine ⟨⟨xs, xs[t], s1, List.getElem?_eq_getElem ht⟩, fun v H' hy => ?_⟩
    obtain ⟨rfl, hv⟩ := hy
    exact st t acc D _ v (hv xs s1) ha hx
  · exact ⟨⟨xs, sq _ _ _ hx.tail, Nat.le_refl _⟩, en acc D H ha hx⟩
/-- over a text -/
theorem k_str {elt : E} {i : Nat} {z : Str} {P1 P2 P3 P4 : Prop} (L : Nat → List V → List HP) (x : SL (L 0 []) H)
    (st : ∀ t acc D H c, z.cps[t]? = some c → acc.length = t → SL (pt D (.lst acc) :: L t acc) H → wE R k elt W0 ((wipe σ [i]).set i (some (.str ⟨#[c]⟩))) H (CompN D t L))
    (en : ∀ acc D H, acc.length = z.cps.size → SL (pt D (.lst acc) :: L z.cps.size acc) H → Q (.ref D) H) :
    P1 ∨ P2 ∨ P3 ∨ (∃ y, V.str z = .str y ∧ CompG R k σ i elt Q (Its y) H) ∨ P4 := by
  refine .inr (.inr (.inr (.inl ⟨z, rfl, k_gen (n := z.cps.size) L x (fun t acc D H ht ha hx => ?_) fun acc D H ha hx => ?_⟩)))
  · refine ⟨ht, fun v H' hy => ?_⟩
    obtain ⟨rfl, c, hc, rfl⟩ := hy
    exact st t acc D _ c hc ha hx
  · exact ⟨Nat.le_refl _, en acc D H ha hx⟩
end
theorem SL.up {A : HP} (mono : ∀ h H, Sub h H → A h → A H) : ∀ {l : List HP} {H : Hp}, A ∈ l → SL l H → A H
  | B :: l, H, m, ⟨h, g, a, b, d, x, y⟩ => by
    cases m with
    | head => exact mono h H a x
    | tail _ m => exact mono g H b (SL.up mono m y)
theorem SL.add {P : Prop} {l : List HP} {H : Hp} (p : P) (x : SL l H) : SL ((fun _ => P) :: l) H := ⟨fun _ => none, H, (fun _ _ e => by cases e), Sub.refl _, (fun _ _ _ e => by cases e), p, x⟩
theorem SL.swap3 {A B C : HP} {l : List HP} {H : Hp} (x : SL (A :: B :: C :: l) H) : SL (C :: A :: B :: l) H := x.perm (((List.Perm.swap C B l).cons A).trans (List.Perm.swap C A _))
theorem take_next {α : Type _} {l acc : List α} {t : Nat} {y : α} (e : acc = l.take t) (h : l[t]? = some y) : acc ++ [y] = l.take (t + 1) := by
  rw [List.take_add_one, h, e]
  rfl
end Zw
set_option Elab.async false
set_option linter.all false
set_option maxRecDepth 100000
set_option maxHeartbeats 4000000
namespace Zw
open PySem PySem.Spec PyProof.Rows L2
local macro_rules | `(tactic| walk_at "mem") => `(tactic| (first | exact List.Mem.head _ | (apply List.Mem.tail; walk_at "mem")))
local macro_rules | `(tactic| walk_at "rp") => `(tactic| (first | exact Rp.hd | (apply Rp.tl; walk_at "rp")))
local macro_rules | `(tactic| walk_at "pk") => `(tactic| (first | exact Pk.hd | (apply Pk.tl; walk_at "pk")))
local macro_rules | `(tactic| walk_at "go1") => `(tactic| with_reducible (first
  | refine q_set ?_ | refine q_exp ?_ | refine q_doc ?_ | refine q_pass ?_ | refine q_ret ?_ | refine q_retN ?_ | refine q_brk ?_ | refine q_cont ?_ | refine q_if ?_ | refine q_par ?_ | refine q_setFld ?_ | refine q_setSub ?_ | refine q_for ?_
  | refine e_int ?_ | refine e_str ?_ | refine e_bl ?_ | refine e_non ?_ | refine e_bin ?_ | refine e_neg ?_ | refine e_nt ?_ | refine e_cmp ?_ | refine e_chain ?_ | refine e_and ?_ | refine e_or ?_ | refine e_ife ?_ | refine e_fld ?_ | refine e_sub ?_ | refine e_tup ?_ | refine e_lst ?_ | refine e_bi ?_ | refine e_meth ?_
  | refine es_nil ?_ | refine es_cons ?_ | refine t_yes ?_ | refine t_nt ?_ | refine t_and ?_ | refine t_or ?_ | refine t_cmp ?_ | refine t_val ?_ | refine i_seq ?_ | refine i_rng ?_
  | refine x_bl ?_ | refine x_in ?_ | refine tr_bl ?_ | refine tr_int ?_ | refine tr_non ?_
  | refine b_add ?_ | refine b_sub ?_ | refine c_lt ?_ | refine c_le ?_ | refine c_gt ?_ | refine c_ge ?_ | refine c_is ?_ | refine c_isnt ?_ | refine i_intB ?_ | refine c_eqI ?_ | refine c_neI ?_ | refine c_eqB ?_ | refine c_neB ?_ | refine c_eqS ?_ | refine q_nil ?_ | refine x_itt ?_ | refine x_iff ?_))
local macro_rules | `(tactic| walk_at "go2") => `(tactic| (first
  | ((with_reducible refine' e_var ?hg ?hh); (case hg => rfl))
  | ((with_reducible refine' s_0 ?hx ?hm ?hg ?hh); (case hx => assumption); (case hm => walk_at "mem"); (case hg => rfl))
  | ((with_reducible refine' s_1 ?hx ?hm ?hg ?hh); (case hx => assumption); (case hm => walk_at "mem"); (case hg => rfl))
  | ((with_reducible refine' s_2 ?hx ?hm ?hg ?hh); (case hx => assumption); (case hm => walk_at "mem"); (case hg => rfl))
  | ((with_reducible refine' p_0 ?hx ?hr ?hb ?hh); (case hx => assumption); (case hr => walk_at "rp"); (case hb => first | (simp; done) | decide); intros)
  | ((with_reducible refine' p_1 ?hx ?hr ?hb ?hh); (case hx => assumption); (case hr => walk_at "rp"); (case hb => first | (simp; done) | decide); intros)
  | ((with_reducible refine' n_lst ?hx ?hb ?hh); (case hx => assumption); (case hb => first | decide | (simp only [List.length_cons, List.length_nil]; decide)); intros)
  | ((with_reducible refine' n_tup ?hx ?hb ?hh); (case hx => assumption); (case hb => first | decide | (simp only [List.length_cons, List.length_nil]; decide)); intros)))
local macro_rules | `(tactic| walk_at "go") => `(tactic| repeat (first | walk_at "go1" | walk_at "go2"))
local macro_rules | `(tactic| walk_at "go2") => `(tactic| (first
  | ((with_reducible refine' e_ty ?hg ?hh); (case hg => rfl))
  | ((with_reducible refine' isi_dp ok_bl ?hx ?hh); (case hx => assumption))
  | ((with_reducible refine' isi_dp ok_int ?hx ?hh); (case hx => assumption))
  | ((with_reducible refine' isi_dp ok_str ?hx ?hh); (case hx => assumption))
  | ((with_reducible refine' isi_dp ok_tup ?hx ?hh); (case hx => assumption))
  | ((with_reducible refine' isi_dp ok_lst ?hx ?hh); (case hx => assumption))
  | ((with_reducible refine' x_dt ?hc ?hh); (case hc => rfl))
  | ((with_reducible refine' x_df ?hc ?hh); (case hc => rfl))))
def stepV (s : Stp) : List V := .str s.1 :: s.2.map fun n => .int (n : Nat)
/-- xs: the tuples of the steps S -/
def StepsA (xs : List V) (S : List Stp) : HP := fun h => xs.length = S.length ∧ ∀ (i : Nat) (s : Stp), S[i]? = some s → ∃ a, xs[i]? = some (V.ref a) ∧ h a = some (.tup (stepV s))
theorem StepsA.up {xs : List V} {S : List Stp} {h H : Hp} (s : Sub h H) (x : StepsA xs S h) : StepsA xs S H := ⟨x.1, fun i s' e => by
  obtain ⟨a, h1, h2⟩ := x.2 i s' e
  exact ⟨a, h1, s a _ h2⟩⟩
theorem SL.step {q : Addr} {s : Stp} {xs : List V} {S : List Stp} {l : List HP} {H : Hp} (x : SL (pt q (.tup (stepV s)) :: StepsA xs S :: l) H) : SL (StepsA (xs ++ [.ref q]) (S ++ [s]) :: l) H := by
  refine (SL.unnest (m := [_, _]) x).imp fun h y => ?_
  have e1 : h q = some (.tup (stepV s)) := SL.get (.head _) y
  have e2 : StepsA xs S h := SL.up (fun _ _ => StepsA.up) (.tail _ (.head _)) y
  refine ⟨by simp [e2.1], fun i s' e => ?_⟩
  by_cases hi : i < S.length
  · rw [List.getElem?_append_left hi] at e
    obtain ⟨a, h1, h2⟩ := e2.2 i s' e
    exact ⟨a, by rw [List.getElem?_append_left (by rw [e2.1]; exact hi)]; exact h1, h2⟩
  · have hi' : i = S.length := by
      have := (List.getElem?_eq_some_iff.mp e).1
      simp at this
      omega
    subst hi'
    rw [List.getElem?_append_right (Nat.le_refl _)] at e
    simp at e
    subst e
    exact ⟨q, by rw [List.getElem?_append_right (by rw [e2.1]; exact Nat.le_refl _), e2.1]; simp, e1⟩
theorem StepsA.nil {l : List HP} {H : Hp} (x : SL l H) : SL (StepsA [] [] :: l) H := ⟨fun _ => none, H, (fun _ _ e => by cases e), Sub.refl _, (fun _ _ _ e => by cases e), ⟨rfl, fun _ _ e => by simp at e⟩, x⟩
section
variable {K : PySem.W.Frag} {xc : XC} {H : Hp} {Q : VK}
theorem ty_s {z : Str} : tyV K "str" (.str z) H := rfl
end
end Zw
set_option Elab.async false
set_option linter.all false
set_option maxRecDepth 100000
set_option maxHeartbeats 4000000
namespace Zw
open PySem PySem.Spec PyProof.Rows L2
local macro_rules | `(tactic| walk_at "mem") => `(tactic| (first | exact List.Mem.head _ | (apply List.Mem.tail; walk_at "mem")))
local macro_rules | `(tactic| walk_at "rp") => `(tactic| (first | exact Rp.hd | (apply Rp.tl; walk_at "rp")))
local macro_rules | `(tactic| walk_at "pk") => `(tactic| (first | exact Pk.hd | (apply Pk.tl; walk_at "pk")))
local macro_rules | `(tactic| walk_at "go1") => `(tactic| with_reducible (first
  | refine q_set ?_ | refine q_exp ?_ | refine q_doc ?_ | refine q_pass ?_ | refine q_ret ?_ | refine q_retN ?_ | refine q_brk ?_ | refine q_cont ?_ | refine q_if ?_ | refine q_par ?_ | refine q_setFld ?_ | refine q_setSub ?_ | refine q_for ?_
  | refine e_int ?_ | refine e_str ?_ | refine e_bl ?_ | refine e_non ?_ | refine e_bin ?_ | refine e_neg ?_ | refine e_nt ?_ | refine e_cmp ?_ | refine e_chain ?_ | refine e_and ?_ | refine e_or ?_ | refine e_ife ?_ | refine e_fld ?_ | refine e_sub ?_ | refine e_tup ?_ | refine e_lst ?_ | refine e_bi ?_ | refine e_meth ?_
  | refine es_nil ?_ | refine es_cons ?_ | refine t_yes ?_ | refine t_nt ?_ | refine t_and ?_ | refine t_or ?_ | refine t_cmp ?_ | refine t_val ?_ | refine i_seq ?_ | refine i_rng ?_
  | refine x_bl ?_ | refine x_in ?_ | refine tr_bl ?_ | refine tr_int ?_ | refine tr_non ?_
  | refine b_add ?_ | refine b_sub ?_ | refine c_lt ?_ | refine c_le ?_ | refine c_gt ?_ | refine c_ge ?_ | refine c_is ?_ | refine c_isnt ?_ | refine i_intB ?_ | refine c_eqI ?_ | refine c_neI ?_ | refine c_eqB ?_ | refine c_neB ?_ | refine c_eqS ?_ | refine q_nil ?_ | refine x_itt ?_ | refine x_iff ?_))
local macro_rules | `(tactic| walk_at "go2") => `(tactic| (first
  | ((with_reducible refine' e_var ?hg ?hh); (case hg => rfl))
  | ((with_reducible refine' s_0 ?hx ?hm ?hg ?hh); (case hx => assumption); (case hm => walk_at "mem"); (case hg => rfl))
  | ((with_reducible refine' s_1 ?hx ?hm ?hg ?hh); (case hx => assumption); (case hm => walk_at "mem"); (case hg => rfl))
  | ((with_reducible refine' s_2 ?hx ?hm ?hg ?hh); (case hx => assumption); (case hm => walk_at "mem"); (case hg => rfl))
  | ((with_reducible refine' p_0 ?hx ?hr ?hb ?hh); (case hx => assumption); (case hr => walk_at "rp"); (case hb => first | (simp; done) | decide); intros)
  | ((with_reducible refine' p_1 ?hx ?hr ?hb ?hh); (case hx => assumption); (case hr => walk_at "rp"); (case hb => first | (simp; done) | decide); intros)
  | ((with_reducible refine' n_lst ?hx ?hb ?hh); (case hx => assumption); (case hb => first | decide | (simp only [List.length_cons, List.length_nil]; decide)); intros)
  | ((with_reducible refine' n_tup ?hx ?hb ?hh); (case hx => assumption); (case hb => first | decide | (simp only [List.length_cons, List.length_nil]; decide)); intros)))
local macro_rules | `(tactic| walk_at "go") => `(tactic| repeat (first | walk_at "go1" | walk_at "go2"))
local macro_rules | `(tactic| walk_at "go2") => `(tactic| (first
  | ((with_reducible refine' e_ty ?hg ?hh); (case hg => rfl))
  | ((with_reducible refine' isi_dp ok_bl ?hx ?hh); (case hx => assumption))
  | ((with_reducible refine' isi_dp ok_int ?hx ?hh); (case hx => assumption))
  | ((with_reducible refine' isi_dp ok_str ?hx ?hh); (case hx => assumption))
  | ((with_reducible refine' isi_dp ok_tup ?hx ?hh); (case hx => assumption))
  | ((with_reducible refine' isi_dp ok_lst ?hx ?hh); (case hx => assumption))
  | ((with_reducible refine' x_dt ?hc ?hh); (case hc => rfl))
  | ((with_reducible refine' x_df ?hc ?hh); (case hc => rfl))))
/-- a def or class of the module that keeps sp up to level k -/
structure Has (R : Rt) (k : Nat) (x : Str) (f : Addr) (sp : Sp) : Prop where
  mg : R.mg x = some (.ref f)
  kp : PySem.W.keepIn R.K (.ref f) = true
  ok : CallOk R k f sp
def HasInt (R : Rt) (x : Str) (i : Int) : Prop := ∃ t, R.mg x = some (.int i t)
theorem e_gint {R : Rx} {k : Nat} {W : WX} {σ : L2.St} {H : Hp} {Q : VK} {x : Str} {i : Int} (h1 : HasInt R.toRt x i) (h : Q (.int i) H) : wE R k (.glob x) W σ H Q := by
  obtain ⟨t, e⟩ := h1
  exact e_glob (v := .int i) e ⟨t, rfl⟩ h
end Zw
set_option Elab.async false
set_option linter.all false
set_option maxRecDepth 100000
set_option maxHeartbeats 4000000
namespace Zw
open PySem PySem.Spec PyProof.Rows L2
local macro_rules | `(tactic| walk_at "mem") => `(tactic| (first | exact List.Mem.head _ | (apply List.Mem.tail; walk_at "mem")))
local macro_rules | `(tactic| walk_at "rp") => `(tactic| (first | exact Rp.hd | (apply Rp.tl; walk_at "rp")))
local macro_rules | `(tactic| walk_at "pk") => `(tactic| (first | exact Pk.hd | (apply Pk.tl; walk_at "pk")))
local macro_rules | `(tactic| walk_at "go1") => `(tactic| with_reducible (first
  | refine q_set ?_ | refine q_exp ?_ | refine q_doc ?_ | refine q_pass ?_ | refine q_ret ?_ | refine q_retN ?_ | refine q_brk ?_ | refine q_cont ?_ | refine q_if ?_ | refine q_par ?_ | refine q_setFld ?_ | refine q_setSub ?_ | refine q_for ?_
  | refine e_int ?_ | refine e_str ?_ | refine e_bl ?_ | refine e_non ?_ | refine e_bin ?_ | refine e_neg ?_ | refine e_nt ?_ | refine e_cmp ?_ | refine e_chain ?_ | refine e_and ?_ | refine e_or ?_ | refine e_ife ?_ | refine e_fld ?_ | refine e_sub ?_ | refine e_tup ?_ | refine e_lst ?_ | refine e_bi ?_ | refine e_meth ?_
  | refine es_nil ?_ | refine es_cons ?_ | refine t_yes ?_ | refine t_nt ?_ | refine t_and ?_ | refine t_or ?_ | refine t_cmp ?_ | refine t_val ?_ | refine i_seq ?_ | refine i_rng ?_
  | refine x_bl ?_ | refine x_in ?_ | refine tr_bl ?_ | refine tr_int ?_ | refine tr_non ?_
  | refine b_add ?_ | refine b_sub ?_ | refine c_lt ?_ | refine c_le ?_ | refine c_gt ?_ | refine c_ge ?_ | refine c_is ?_ | refine c_isnt ?_ | refine i_intB ?_ | refine c_eqI ?_ | refine c_neI ?_ | refine c_eqB ?_ | refine c_neB ?_ | refine c_eqS ?_ | refine q_nil ?_ | refine x_itt ?_ | refine x_iff ?_))
local macro_rules | `(tactic| walk_at "go2") => `(tactic| (first
  | ((with_reducible refine' e_var ?hg ?hh); (case hg => rfl))
  | ((with_reducible refine' s_0 ?hx ?hm ?hg ?hh); (case hx => assumption); (case hm => walk_at "mem"); (case hg => rfl))
  | ((with_reducible refine' s_1 ?hx ?hm ?hg ?hh); (case hx => assumption); (case hm => walk_at "mem"); (case hg => rfl))
  | ((with_reducible refine' s_2 ?hx ?hm ?hg ?hh); (case hx => assumption); (case hm => walk_at "mem"); (case hg => rfl))
  | ((with_reducible refine' p_0 ?hx ?hr ?hb ?hh); (case hx => assumption); (case hr => walk_at "rp"); (case hb => first | (simp; done) | decide); intros)
  | ((with_reducible refine' p_1 ?hx ?hr ?hb ?hh); (case hx => assumption); (case hr => walk_at "rp"); (case hb => first | (simp; done) | decide); intros)
  | ((with_reducible refine' n_lst ?hx ?hb ?hh); (case hx => assumption); (case hb => first | decide | (simp only [List.length_cons, List.length_nil]; decide)); intros)
  | ((with_reducible refine' n_tup ?hx ?hb ?hh); (case hx => assumption); (case hb => first | decide | (simp only [List.length_cons, List.length_nil]; decide)); intros)))
local macro_rules | `(tactic| walk_at "go") => `(tactic| repeat (first | walk_at "go1" | walk_at "go2"))
local macro_rules | `(tactic| walk_at "go2") => `(tactic| (first
  | ((with_reducible refine' e_ty ?hg ?hh); (case hg => rfl))
  | ((with_reducible refine' isi_dp ok_bl ?hx ?hh); (case hx => assumption))
  | ((with_reducible refine' isi_dp ok_int ?hx ?hh); (case hx => assumption))
  | ((with_reducible refine' isi_dp ok_str ?hx ?hh); (case hx => assumption))
  | ((with_reducible refine' isi_dp ok_tup ?hx ?hh); (case hx => assumption))
  | ((with_reducible refine' isi_dp ok_lst ?hx ?hh); (case hx => assumption))
  | ((with_reducible refine' x_dt ?hc ?hh); (case hc => rfl))
  | ((with_reducible refine' x_df ?hc ?hh); (case hc => rfl))))
def HasStr (R : Rt) (x : Str) (z : Str) : Prop := ∃ t, R.mg x = some (.str z t)
section
variable {R : Rx} {k : Nat} {W : WX} {σ : L2.St} {H : Hp} {Q : VK} {D : Ends} {r : Ss}
theorem i_enum {e : E} {S : It → Hp → Prop} (h : wE R k e W σ H fun x H1 => (∃ a xs, x = .ref a ∧ SqL R.K H1 a xs ∧ S (Ite R.K a) H1) ∨ ∃ a xs, x = .ref a ∧ SqT R.K H1 a xs ∧ S (Iet R.K a) H1) : wI R k (.enum e) W σ H S := h
theorem q_unpS {i j : Nat} {e : E} (h : wE R k e W σ H fun v H1 => ∃ p x rest, v = .ref p ∧ SqL R.K H1 p (x :: rest) ∧ ∀ q, H1 q = none → wSs R k r W D ((σ.set i (some x)).set j (some (.ref q))) (upd H1 q (.lst rest))) : wSs R k (.cons (.unpS i j e) r) W D σ H := h
theorem e_tupS {a b : E} (h : wE R k a W σ H fun x H1 => wE R k b W σ H1 fun y H2 => ∃ p xs, y = .ref p ∧ (SqT R.K H2 p xs ∨ SqL R.K H2 p xs) ∧ (x :: (xs ++ [])).length ≤ sizeLine ∧ ∀ p, H2 p = none → Q (.ref p) (upd H2 p (.tup (x :: (xs ++ []))))) : wE R k (.tupS a b) W σ H Q := h
theorem e_inD {i : Nat} {x : Str} {z : Str} {p : Addr} {b ng : Bool} (h1 : R.mg x = some (.ref p)) (h2 : KHas R.K R.w p z b) (hv : σ[i]? = some (some (.str z))) (h : Q (.bl (if ng = true then !b else b)) H) : wE R k (.inG ng (.var i) x) W σ H Q :=
  ⟨.str z, hv, .ref p, _, h1, rfl, .inl ⟨p, z, b, rfl, rfl, h2, h⟩⟩
theorem e_ixD {i : Nat} {x : Str} {z : Str} {p : Addr} {v : V} (h1 : R.mg x = some (.ref p)) (h2 : KDct R.K R.w p z v) (hv : σ[i]? = some (some (.str z))) (h : Q v H) : wE R k (.subG x (.var i)) W σ H Q :=
  ⟨.ref p, _, h1, rfl, .str z, hv, .inl ⟨p, z, v, rfl, rfl, h2, h⟩⟩
end
section
variable {K : PySem.W.Frag} {xc : XC} {H : Hp} {Q : VK} {l : List HP}
theorem len_s {z : Str} (b : z.length ≤ sizeLine) : LenV K (.str z) H z.length := ⟨b, rfl⟩
theorem s_str0 {z : Str} {c : Nat} {r : List Nat} (b : z.length ≤ sizeLine) (e : TL.tl z = c :: r) (h : Q (.str ⟨#[c]⟩) H) : rSubs K (.str z) (.int 0) H Q :=
  .inl (.inr (.inr ⟨z, ((0 : Nat) : Int), c, rfl, rfl, b, by
    have e' : z.cps.toList = c :: r := e
    unfold atI
    rw [e', ixN_nat (by simp)]
    rfl, h⟩))
theorem m_split {a b : Str} (hb : (b.length == 0) = false) (ha : a.length + 2 ≤ sizeLine) (x : SL l H) (h : ∀ p H', SL (pt p (.lst ((Txt.split a b).map V.str)) :: l) H' → Q (.ref p) H') : rMt K .split (.str a) [.str b] H Q := ⟨a, b, rfl, rfl, hb, ha, fun p n => h p _ (x.new _ n)⟩
theorem i_all {p : Addr} {bs : List Bool} (e : SqL K H p (bs.map V.bl)) (h : Q (.bl (bs.all id)) H) : rBi K xc .all [.ref p] H Q := ⟨p, bs, rfl, e, h⟩
theorem i_intS {a : Str} {n : Int} (e : PySem.intText? a = some n) (b : a.length ≤ 640) (h : Q (.int n) H) : rBi K xc .int [.str a] H Q := .inr ⟨a, n, rfl, e, b, h⟩
end
theorem len1' : (("\n" : Str).length == 0) = false ∧ ((" " : Str).length == 0) = false := by decide +kernel
def N_is_figures : List Str := ["text", "sign"]
def b_is_figures : Ss := (.cons (.ifs (.or2 (.nt (.cmp (.chain .LtE .LtE (.int 1) (.callB .len (.cons (.var 0) .nil)) (.glob "MOST_FIGURES")))) (.nt (.val (.callB .all (.cons (.comp (.inG false (.var 1) "FIGURES") (.nm 1) (.seq (.var 0)) .yes [1]) .nil)))))
  (.cons (.ret (.bl false))
  .nil)
  .nil)
  (.cons (.ret (.or2 (.cmp .Eq (.var 0) (.str "0")) (.cmp .NotEq (.sub (.var 0) (.int 0)) (.str "0"))))
  .nil))
def N_read_row : List Str := ["row", "line", "word", "numbers", "number"]
def b_read_row : Ss := (.cons (.unpS 2 3 (.meth (.var 1) "split" [.split] (.cons (.str " ") .nil)))
  (.cons (.ifs (.or2 (.cmp (.inG true (.var 2) "WORDS")) (.cmp (.cmp .NotEq (.callB .len (.cons (.var 3) .nil)) (.subG "WORDS" (.var 2)))))
  (.cons .dead
  .nil)
  .nil)
  (.cons (.ifs (.nt (.val (.callB .all (.cons (.comp (.call "is_figures" (.cons (.var 4) .nil)) (.nm 4) (.seq (.var 3)) .yes [4]) .nil))))
  (.cons .dead
  .nil)
  .nil)
  (.cons (.ret (.tupS (.var 2) (.comp (.callB .int (.cons (.var 4) .nil)) (.nm 4) (.seq (.var 3)) .yes [4])))
  .nil))))
def N_read : List Str := ["text", "row", "line"]
def b_read : Ss := (.cons (.ifs (.cmp (.cmp .Eq (.var 0) (.str "")))
  (.cons (.ret (.lst .nil))
  .nil)
  .nil)
  (.cons (.ret (.comp (.call "read_row" (.cons (.var 1) (.cons (.var 2) .nil))) (.tp [1, 2]) (.enum (.meth (.var 0) "split" [.split] (.cons (.str "\n") .nil))) .yes [1, 2]))
  .nil))
def kvE : List (Str × Int) → Es
  | [] => .nil
  | p :: r => .cons (.str p.1) (.cons (.int p.2) (kvE r))
def kvK (l : List (Str × Int)) : List (Key × V) := l.map fun p => (.inr p.1, .int p.2)
section
variable {R : Rx} {k : Nat} {W : WX} {σ : L2.St} {H : Hp} {Q : VK} {l : List HP}
theorem pairs_kv : ∀ {kv : List (Str × Int)} {H : Hp} {Q : List (V × V) → Hp → Prop}, Q ((kvK kv).map fun p => (kV p.1, p.2)) H → tPairs (wPs R k (kvE kv) W) σ H Q
  | [], H, Q, h => h
  | p :: r, H, Q, h => pairs_kv (kv := r) (H := H) (Q := fun ps H3 => Q ((.str p.1, .int p.2) :: ps) H3) h
/-- a written dict of texts and numbers -/
theorem e_dctC (kv : List (Str × Int)) (b : kv.length ≤ 15) (x : SL l H) (h : ∀ p H', SL (pt p (.dK (mergeK [] (kvK kv))) :: l) H' → Q (.ref p) H') : wE R k (.dct (kvE kv)) W σ H Q := by
  intro p hn
  refine pairs_kv ⟨upd_same, kvK kv, rfl, by simpa [kvK] using b, h p _ ?_⟩
  exact (x.new (.dK []) hn).wr .hd rfl
end
section
variable {K : PySem.W.Frag} {H : Hp} {Q : VK} {l l' : List HP}
theorem ty_d {p : Addr} {kvs : List (Key × V)} (e : H p = some (.dK kvs)) : tyV K "dict" (.ref p) H := .inr (.inr (.inl ⟨rfl, .inl ⟨kvs, e⟩⟩))
theorem m_upd {p q : Addr} {kvs more : List (Key × V)} (hne : p ≠ q) (x : SL l H) (r : Rp (pt p (.dK kvs)) (pt p (.dK (mergeK kvs more))) l l') (mq : pt q (.dK more) ∈ l) (b : kvs.length + more.length ≤ sizeLine) (h : ∀ H', SL l' H' → Q .non H') : rMt K .update (.ref p) [.ref q] H Q :=
  ⟨p, q, kvs, more, rfl, rfl, hne, SL.get r.mem x, SL.get mq x, b, h _ (x.wr r rfl)⟩
theorem m_get2 {p : Addr} {kvs : List (Key × V)} {z : Str} {d : V} (x : SL l H) (m : pt p (.dK kvs) ∈ l) (h : Q ((valV kvs (.inr z)).getD d) H) : rMt K .dget2 (.ref p) [.str z, d] H Q :=
  ⟨p, .str z, d, _, rfl, rfl, DGet.k (k := .inr z) (SL.get m x), h⟩
theorem SL.ne {p q : Addr} {o u : HO} (f : fixO o = false) (x : SL (pt p o :: pt q u :: l) H) : p ≠ q := by
  rintro rfl
  obtain ⟨h, g, a, b, d, e1, e2⟩ := x
  have := d p o u e1 (SL.get (.head _) e2)
  rw [f] at this
  cases this
end
def anyWords : List Str := (([("make" : Str), "grow", "mirror", "read", "write", "write", "step", "step", "drop", "leave", "stay"] : List Str) ++ ([("room" : Str), "lacks", "lost", "volumes", "places", "copying", "lose", "bring", "arm"] : List Str)) ++ ([("again" : Str), "make", "step", "bring"] : List Str)
def anyKv1 : List (Str × Int) := [("make", 3), ("grow", 2), ("mirror", 2), ("read", 2), ("write", 3), ("bring", 2), ("step", 0), ("lacks", 0), ("lost", 0)]
def anyKv2 : List (Str × Int) := [("volumes", 0), ("copying", 0), ("again", 0)]
def anyTab : List (Key × V) := mergeK (mergeK [] (kvK anyKv1)) (mergeK [] (kvK anyKv2))
theorem any_count : ∀ w ∈ anyWords, ∃ p ∈ words, p.1 = w ∧ (valV anyTab (.inr w)).getD (.int 1) = .int (p.2 : Nat) := by decide +kernel
theorem any_len : anyWords.length = 24 := by decide +kernel
theorem any_tops : ∀ i : Nat, i < 5 → ∃ m : Int, ([.int 4, .int 4, .int 13, .int 1001, .int 9999] : List V)[i]? = some (.int m) ∧ 0 < m ∧ m ≤ 9999
  | 0, _ => ⟨4, rfl, by decide, by decide⟩
  | 1, _ => ⟨4, rfl, by decide, by decide⟩
  | 2, _ => ⟨13, rfl, by decide, by decide⟩
  | 3, _ => ⟨1001, rfl, by decide, by decide⟩
  | 4, _ => ⟨9999, rfl, by decide, by decide⟩
  | n + 5, h => absurd h (by omega)
def N_anystep : List Str := ["_law_box", "_law_words", "_law_counts", "_law_word", "_law_numbers", "_law_k"]
def b_anystep : Ss := (.cons (.set 1 (.lst (.cons (.str "make") (.cons (.str "grow") (.cons (.str "mirror") (.cons (.str "read") (.cons (.str "write") (.cons (.str "write") (.cons (.str "step") (.cons (.str "step") (.cons (.str "drop") (.cons (.str "leave") (.cons (.str "stay") .nil)))))))))))))
  (.cons (.set 1 (.bin .Add (.var 1) (.lst (.cons (.str "room") (.cons (.str "lacks") (.cons (.str "lost") (.cons (.str "volumes") (.cons (.str "places") (.cons (.str "copying") (.cons (.str "lose") (.cons (.str "bring") (.cons (.str "arm") .nil))))))))))))
  (.cons (.set 1 (.bin .Add (.var 1) (.lst (.cons (.str "again") (.cons (.str "make") (.cons (.str "step") (.cons (.str "bring") .nil)))))))
  (.cons (.set 2 (.dct (.cons (.str "make") (.cons (.int 3) (.cons (.str "grow") (.cons (.int 2) (.cons (.str "mirror") (.cons (.int 2) (.cons (.str "read") (.cons (.int 2) (.cons (.str "write") (.cons (.int 3) (.cons (.str "bring") (.cons (.int 2) (.cons (.str "step") (.cons (.int 0) (.cons (.str "lacks") (.cons (.int 0) (.cons (.str "lost") (.cons (.int 0) .nil))))))))))))))))))))
  (.cons (.exp (.meth (.var 2) "update" [.update] (.cons (.dct (.cons (.str "volumes") (.cons (.int 0) (.cons (.str "copying") (.cons (.int 0) (.cons (.str "again") (.cons (.int 0) .nil))))))) .nil)))
  (.cons (.set 3 (.sub (.var 1) (.call "_law_take" (.cons (.var 0) (.cons (.int 24) .nil)))))
  (.cons (.set 4 (.lst .nil))
  (.cons (.fors (.nm 5) (.rng1 (.meth (.var 2) "get" [.dget1, .dget2] (.cons (.var 3) (.cons (.int 1) .nil))))
  (.cons (.exp (.meth (.var 4) "append" [.append] (.cons (.call "_law_take" (.cons (.var 0) (.cons (.sub (.lst (.cons (.int 4) (.cons (.int 4) (.cons (.int 13) (.cons (.int 1001) (.cons (.int 9999) .nil)))))) (.call "_law_take" (.cons (.var 0) (.cons (.int 5) .nil)))) .nil))) .nil)))
  .nil))
  (.cons (.ret (.callB .tuple (.cons (.bin .Add (.lst (.cons (.var 3) .nil)) (.var 4)) .nil)))
  .nil)))))))))
def spAny : Sp := fun vs H Q _ => ∃ (a : Addr) (l : List HP), vs = [.ref a] ∧ SL (BoxA a :: l) H ∧ ∀ q s H', Good s → SL (pt q (.tup (stepV s)) :: BoxA a :: l) H' → Q (.ref q) H'
theorem w_anystep {R : Rx} {k : Nat} {f : Addr} {vs : List V} {H : Hp} {Q : VK} {X : XK} (N1 : Has R.toRt k "_law_take" f spTake) (h : spAny vs H Q X) : wSs R k b_anystep (fun cls d _ H' => X cls d H') { nx := fun _ H' => Q .non H', rt := Q } (L2.start N_anystep vs) H := by
  obtain ⟨a, l, rfl, x, hq⟩ := h
  have sz : (500 : Nat) < sizeLine := by rw [sizeLine_eq]; decide
  show wSs R k b_anystep _ _ [some (.ref a), none, none, none, none, none] H
  unfold b_anystep
  walk_at "go"
  rename_i p1 H1 x1 p2 H2 x2
  refine b_cat (SL.get (.tail _ (.head _)) x2) (SL.get (.head _) x2) (by decide) (n_o x2.swap.tail fun p3 H3 x3 => ?_)
  clear x2 x1 x
  walk_at "go"
  rename_i p4 H4 x4
  refine b_cat (SL.get (.tail _ (.head _)) x4) (SL.get (.head _) x4) (by decide) (n_o (SL.drop (.tl (.hd)) x4.tail) fun p5 H5 x5 => ?_)
  clear x4 x3
  have x5 : SL (pt p5 (.lst (anyWords.map V.str)) :: BoxA a :: l) H5 := SL.drop (.tl .hd) x5
  walk_at "go"
  refine e_dctC anyKv1 (by decide) x5 fun p6 H6 x6 => ?_
  clear x5
  walk_at "go"
  refine x_bm .update (by decide) (ty_d (SL.get (.head _) x6)) (es_cons ?_)
  refine e_dctC anyKv2 (by decide) x6 fun p7 H7 x7 => ?_
  clear x6
  walk_at "go"
  refine m_upd (SL.ne rfl x7.swap) x7 (.tl .hd) (.head _) (by have : (mergeK [] (kvK anyKv1)).length + (mergeK [] (kvK anyKv2)).length = 12 := by decide +kernel
                                                              omega) fun H8 x8 => ?_
  have x8 : SL (pt p6 (.dK anyTab) :: pt p5 (.lst (anyWords.map V.str)) :: BoxA a :: l) H8 := x8.tail
  clear x7
  walk_at "go"
  refine e_call N1.mg N1.kp ?_
  walk_at "go"
  refine x_sp N1.ok ⟨a, 24, pt p6 (.dK anyTab) :: pt p5 (.lst (anyWords.map V.str)) :: l, rfl, by decide, by decide, x8.swap3, fun H9 i i0 i1 x9 => ?_⟩
  clear x8
  obtain ⟨j, rfl⟩ : ∃ j : Nat, i = (j : Int) := ⟨i.toNat, by omega⟩
  have hj : j < anyWords.length := by rw [any_len]; omega
  refine s_lst (sq_l (SL.get (.tail _ (.tail _ (.head _))) x9)) (v := .str anyWords[j]) (by rw [List.getElem?_map, List.getElem?_eq_getElem hj]; rfl) ?_
  obtain ⟨⟨w, c⟩, hw, e1, e2⟩ := any_count anyWords[j] (List.getElem_mem hj)
  dsimp only at e1 e2
  rw [← e1] at e2 ⊢
  walk_at "go"
  rename_i p8 H10 x10
  refine x_bm .dget2 (by decide) (ty_d (SL.get (.tail _ (.tail _ (.head _))) x10)) ?_
  walk_at "go"
  refine m_get2 x10 (.tail _ (.tail _ (.head _))) ?_
  rw [e2]
  have hc : c ≤ 3 := (words_free _ hw).2.2.2.2
  have x11 : SL (pt p8 (.lst (([] : List Nat).map fun n => V.int (n : Nat))) :: BoxA a :: l) H10 := SL.drop (.tl (.tl .hd)) (SL.drop (.tl (.tl .hd)) x10)
  refine l_rng (n := c) (fun t σ H => ∃ (ns : List Nat) (z : Option V), ns.length = t ∧ (∀ n ∈ ns, n < 10000) ∧ SL (pt p8 (.lst (ns.map fun n => V.int (n : Nat))) :: BoxA a :: l) H ∧ σ = [some (.ref a), some (.ref p5), some (.ref p6), some (.str w), some (.ref p8), z]) (by omega) ⟨[], _, rfl, (by simp), x11, rfl⟩ (fun t σ H ht I => ?_) fun σ H I => ?_
  · obtain ⟨ns, z, hl, hn, y, rfl⟩ := I
    clear x9 x10 x11
    walk_at "go"
    refine x_bm .append (by decide) (ty_l (sq_l (SL.get (.head _) y))) (es_cons ?_)
    refine e_call N1.mg N1.kp ?_
    walk_at "go"
    rename_i p9 Ha xa
    refine e_call N1.mg N1.kp ?_
    walk_at "go"
    refine x_sp N1.ok ⟨a, 5, pt p9 (.lst [.int 4, .int 4, .int 13, .int 1001, .int 9999]) :: pt p8 (.lst (ns.map fun n => V.int (n : Nat))) :: l, rfl, by decide, by decide, xa.swap3, fun Hb i i0 i1 xb => ?_⟩
    obtain ⟨j, rfl⟩ : ∃ j : Nat, i = (j : Int) := ⟨i.toNat, by omega⟩
    obtain ⟨m, hm, m0, m1⟩ := any_tops j (by omega)
    refine s_lst (sq_l (SL.get (.tail _ (.head _)) xb)) hm ?_
    walk_at "go"
    refine x_sp N1.ok ⟨a, m, pt p9 (.lst [.int 4, .int 4, .int 13, .int 1001, .int 9999]) :: pt p8 (.lst (ns.map fun n => V.int (n : Nat))) :: l, rfl, m0, ?_, xb, fun Hc i i0 i1 xc => ?_⟩
    · have hz : m.natAbs ≠ 0 := by omega
      exact Nat.lt_trans ((Nat.log2_lt hz).mpr (show m.natAbs < 2 ^ 14 by omega)) (by decide)
    obtain ⟨v, rfl⟩ : ∃ v : Nat, i = (v : Int) := ⟨i.toNat, by omega⟩
    walk_at "go"
    refine m_app xc (.tl (.tl .hd)) (by simp; omega) fun Hd xd => ?_
    walk_at "go"
    refine ⟨ns ++ [v], _, by simp [hl], fun n hn' => ?_, ?_, rfl⟩
    · rcases List.mem_append.mp hn' with h | h
      · exact hn n h
      · obtain rfl := List.mem_singleton.mp h
        omega
    · rw [List.map_append]
      exact (SL.drop (.tl .hd) xd).swap
  · obtain ⟨ns, z, hl, hn, y, rfl⟩ := I
    clear x9 x10 x11
    walk_at "go"
    rename_i p9 Ha xa
    refine b_cat (SL.get (.head _) xa) (SL.get (.tail _ (.head _)) xa) (by simp; omega) (n_o xa fun pb Hb xb => ?_)
    walk_at "go"
    refine ⟨pb, _, rfl, .inl ⟨sq_l (SL.get (.head _) xb), fun q hn' => ?_⟩⟩
    refine hq q (w, ns) _ ⟨by rw [hl]; exact hw, hn⟩ ?_
    exact (SL.drop (.hd) (SL.drop (.hd) (SL.drop (.hd) xb))).new _ hn'
def partD (s : Stp) : List PyData := .str s.1 :: s.2.map fun n => .int (n : Nat)
def stepD (s : Stp) : PyData := .tuple (partD s)
def stepsD (S : List Stp) : PyData := .list (S.map stepD)
section
variable {K : PySem.W.Frag} {H : Hp}
theorem dp_part : ∀ ns : List Nat, DpAll K H (ns.map fun n => V.int (n : Nat)) (ns.map fun n => PyData.int (n : Nat))
  | [] => .nil
  | _ :: r => .cons (.int _) (dp_part r)
theorem dp_all : ∀ {S : List Stp} {xs : List V}, StepsA xs S H → DpAll K H xs (S.map stepD)
  | [], xs, h => by
    have : xs = [] := List.length_eq_zero_iff.mp h.1
    subst this
    exact .nil
  | s :: S, [], h => by cases h.1
  | s :: S, x :: xs, h => by
    obtain ⟨a, h1, h2⟩ := h.2 0 s rfl
    simp at h1
    subst h1
    refine .cons (.tup (st_t h2) (.cons (.str _) (dp_part _))) (dp_all ⟨by simpa using h.1, fun i s' e => h.2 (i + 1) s' (by simpa using e)⟩)
theorem dp_steps {p : Addr} {xs : List V} {S : List Stp} (e : SqL K H p xs) (h : StepsA xs S H) : Dp K H (.ref p) (stepsD S) := .lst e (dp_all h)
end
theorem lay_part : ∀ ns : List Nat, PyData.canLayAll0 (ns.map fun n => PyData.int (n : Nat)) = true
  | [] => rfl
  | _ :: r => by simp [PyData.canLayAll0, PyData.canLay0, lay_part r]
theorem words_ok : ∀ p ∈ words, PyData.strOk p.1 = true := by decide +kernel
theorem lay_steps : ∀ {S : List Stp}, (∀ s ∈ S, Good s) → PyData.canLayAll0 (S.map stepD) = true
  | [], _ => rfl
  | s :: r, g => by
    have := words_ok _ (g s List.mem_cons_self).w
    simp [PyData.canLayAll0, PyData.canLay0, stepD, partD, lay_part, lay_steps (S := r) (fun q hq => g q (List.mem_cons_of_mem _ hq)), this]
theorem dep_part : ∀ ns : List Nat, PyData.depthAll (ns.map fun n => PyData.int (n : Nat)) = 0
  | [] => rfl
  | _ :: r => by simp [PyData.depthAll, PyData.depth, dep_part r]
theorem dep_steps : ∀ S : List Stp, PyData.depthAll (S.map stepD) ≤ 1
  | [] => by simp [PyData.depthAll]
  | s :: r => by
    have := dep_steps r
    simp [PyData.depthAll, PyData.depth, stepD, partD, dep_part]
    omega
theorem sz_part : ∀ ns : List Nat, szAll (ns.map fun n => PyData.int (n : Nat)) = true
  | [] => rfl
  | _ :: r => by simp [szAll, szB, sz_part r]
theorem sz_steps : ∀ {S : List Stp}, (∀ s ∈ S, Good s) → szAll (S.map stepD) = true
  | [], _ => rfl
  | s :: r, g => by
    have h1 := (g s List.mem_cons_self).few
    have h2 : s.2.length + 1 ≤ sizeLine := by rw [sizeLine_eq]; omega
    simp only [List.map_cons, szAll, stepD, partD, szB, List.length_cons, List.length_map, sz_part, Bool.and_true, Bool.true_and, sz_steps (S := r) (fun q hq => g q (List.mem_cons_of_mem _ hq))]
    exact decide_eq_true h2
section
variable {R : Rx} {k : Nat} {W : WX} {σ : L2.St} {H : Hp} {Q : VK} {D : Ends} {r : Ss}
theorem e_cut {a : E} {lo hi : O} (h : wE R k a W σ H fun x H1 => wO R k lo W σ H1 fun l H2 => wO R k hi W σ H2 fun u H3 => rCut R.K x l u H3 Q) : wE R k (.cut a lo hi) W σ H Q := h
theorem o_part {e : E} {Q : Option Int → Hp → Prop} (h : wE R k e W σ H fun x H1 => ∃ i, x = .int i ∧ Q (some i) H1) : wO R k (.part e) W σ H Q := h
theorem o_no {Q : Option Int → Hp → Prop} (h : Q none H) : wO R k .no W σ H Q := h
end
section
variable {K : PySem.W.Frag} {xc : XC} {H : Hp} {Q : VK} {l : List HP}
theorem b_addS {i j : Str} (b : i.length + j.length ≤ sizeLine) (h : Q (.str (i ++ j)) H) : rBin K .Add (.str i) (.str j) H Q := .inr (.inl ⟨i, j, rfl, rfl, b, h⟩)
theorem c_neS {i j : Str} (h : Q (.bl (!decide (i = j))) H) : rCmp K .NotEq (.str i) (.str j) H Q := c_ne rfl (by
  rw [show decide (V.str i = V.str j) = decide (i = j) by rw [decide_eq_decide]; exact ⟨fun h => by cases h; rfl, fun h => by rw [h]⟩]
  exact h)
end
theorem SL.one {p : Addr} {o : HO} {H : Hp} (e : H p = some o) : SL [pt p o] H := ⟨H, fun _ => none, Sub.refl _, (fun _ _ e => by cases e), (fun _ _ _ _ e => by cases e), e, trivial⟩
open Classical in
noncomputable def okFig (t : Str) : Bool := decide (IsNum t)
def spFigX : Sp := fun vs H Q _ => ∃ t l, vs = [.str t] ∧ t.length ≤ sizeLine ∧ SL l H ∧ ∀ H', SL l H' → Q (.bl (okFig t)) H'
open Classical in
theorem okFig_true {t : Str} (h : okFig t = true) : IsNum t := of_decide_eq_true h
def inFigs (c : Nat) : Bool := decide (c ∈ TL.tl figures)
open Classical in
theorem okFig_eq {t : Str} {b : Bool} (h : b = true ↔ IsNum t) : okFig t = b := by
  unfold okFig
  cases b with
  | true => exact decide_eq_true (h.mp rfl)
  | false => exact decide_eq_false fun z => by cases h.mpr z
theorem sign_ne {c : Nat} (h : c ≠ 48) : decide (V.str ⟨#[c]⟩ = V.str "0") = false := decide_eq_false (fun z => h (by
  have z := V.str.inj z
  have : (⟨#[c]⟩ : Str).cps = (⟨#[48]⟩ : Str).cps := by
    rw [z]
    decide +kernel
  have := congrArg Array.toList this
  simpa using this))
theorem sign_eq : decide (V.str ⟨#[48]⟩ = V.str "0") = true := decide_eq_true (by decide +kernel)
theorem all_map (l : List Nat) (f : Nat → Bool) : (l.map f).all id = l.all f := by
  rw [List.all_map]
  rfl
theorem w_is_figuresX {R : Rx} {k : Nat} {vs : List V} {H : Hp} {Q : VK} {X : XK} (N1 : HasInt R.toRt "MOST_FIGURES" 4) (N2 : HasStr R.toRt "FIGURES" figures) (h : spFigX vs H Q X) : wSs R k b_is_figures (fun cls d _ H' => X cls d H') { nx := fun _ H' => Q .non H', rt := Q } (L2.start N_is_figures vs) H := by
  obtain ⟨t, l, rfl, hl, x, hq⟩ := h
  have sz : (4 : Nat) < sizeLine := by rw [sizeLine_eq]; decide
  show wSs R k b_is_figures _ _ [some (.str t), none] H
  unfold b_is_figures
  walk_at "go"
  refine i_len (len_s hl) ?_
  walk_at "go"
  by_cases h1 : 1 ≤ t.length
  · refine x_dt (decide_eq_true (by omega)) ?_
    refine e_gint N1 ?_
    walk_at "go"
    by_cases h2 : t.length ≤ 4
    · rw [show (decide ((t.length : Int) ≤ 4)) = true from decide_eq_true (by omega)]
      walk_at "go"
      refine e_comp ?_
      walk_at "go"
      refine k_str (fun n acc => (fun _ => acc = (((TL.tl t).map inFigs).map V.bl).take n) :: l) (x.add (by simp)) (fun n acc D H1 c hc ha y => ?_) fun acc D H1 ha y => ?_
      · obtain ⟨hacc, y'⟩ := y.swap.fact
        have ht : n < t.cps.size := (Array.getElem?_eq_some_iff.mp hc).1
        have ht' : t.cps.size = t.length := rfl
        show wE R k _ W0 [some (.str t), some (.str ⟨#[c]⟩)] H1 _
        obtain ⟨tk, eg⟩ := N2
        refine ⟨.str ⟨#[c]⟩, rfl, .str figures, _, eg, ⟨tk, rfl⟩, .inr (.inr (.inr (.inr ⟨c, figures, rfl, rfl, ?_⟩)))⟩
        refine CompN.of ha (by omega) ((y'.add (P := acc ++ [V.bl _] = _) (take_next hacc ?_)).swap)
        rw [List.getElem?_map, List.getElem?_map, show (TL.tl t)[n]? = some c from by simpa [TL.tl] using hc]
        rfl
      · obtain ⟨hacc, y'⟩ := y.swap.fact
        rw [List.take_of_length_le (by simp [TL.tl])] at hacc
        subst hacc
        walk_at "go"
        refine i_all (sq_l (SL.get (.head _) y')) ?_
        rw [all_map]
        have hall : (TL.tl t).all inFigs = true ↔ ∀ c ∈ TL.tl t, c ∈ TL.tl figures := by
          rw [List.all_eq_true]
          exact ⟨fun h c hc => of_decide_eq_true (h c hc), fun h c hc => decide_eq_true (h c hc)⟩
        cases ea : (TL.tl t).all inFigs with
        | false =>
          walk_at "go"
          have e := okFig_eq (t := t) (b := false) ⟨(fun z => by cases z), fun z => by
            have := hall.mpr ((fig_iff t).mpr z).2.1
            rw [ea] at this
            cases this⟩
          rw [← e]
          exact hq _ y'.tail
        | true =>
          have hd := hall.mp ea
          walk_at "go"
          cases h0 : decide (t = "0") with
          | true =>
            walk_at "go"
            have e := okFig_eq (t := t) (b := true) ⟨fun _ => (fig_iff t).mp ⟨⟨h1, h2⟩, hd, .inl (of_decide_eq_true h0)⟩, fun _ => rfl⟩
            rw [← e]
            exact hq _ y'.tail
          | false =>
            walk_at "go"
            obtain ⟨c, r, e⟩ : ∃ c r, TL.tl t = c :: r := by
              cases e : TL.tl t with
              | nil => rw [TL.len_tl, e] at h1; exact absurd h1 (by decide)
              | cons c r => exact ⟨c, r, rfl⟩
            refine s_str0 hl e ?_
            walk_at "go"
            refine c_ne rfl ?_
            by_cases hc : c = 48
            · subst hc
              rw [sign_eq]
              have e := okFig_eq (t := t) (b := !true) ⟨(fun z => by cases z), fun z => by
                rcases ((fig_iff t).mpr z).2.2 with z | ⟨c', r', z, hne⟩
                · exact absurd z (of_decide_eq_false h0)
                · rw [e] at z
                  exact absurd (List.cons.inj z).1.symm hne⟩
              rw [← e]
              exact hq _ y'.tail
            · rw [sign_ne hc]
              have e := okFig_eq (t := t) (b := !false) ⟨fun _ => (fig_iff t).mp ⟨⟨h1, h2⟩, hd, .inr ⟨c, r, e, hc⟩⟩, fun _ => rfl⟩
              rw [← e]
              exact hq _ y'.tail
    · rw [show (decide ((t.length : Int) ≤ 4)) = false from decide_eq_false (by omega)]
      walk_at "go"
      have e := okFig_eq (t := t) (b := false) ⟨(fun z => by cases z), fun z => absurd ((fig_iff t).mpr z).1.2 h2⟩
      rw [← e]
      exact hq _ x
  · refine x_df (decide_eq_false (by omega)) ?_
    walk_at "go"
    have e := okFig_eq (t := t) (b := false) ⟨(fun z => by cases z), fun z => absurd ((fig_iff t).mpr z).1.1 h1⟩
    rw [← e]
    exact hq _ x
def b_read_rowX : Ss := (.cons (.unpS 2 3 (.meth (.var 1) "split" [.split] (.cons (.str " ") .nil)))
  (.cons (.ifs (.or2 (.cmp (.inG true (.var 2) "WORDS")) (.cmp (.cmp .NotEq (.callB .len (.cons (.var 3) .nil)) (.subG "WORDS" (.var 2)))))
  (.cons (.raiseV "BadText" (.var 0))
  .nil)
  .nil)
  (.cons (.ifs (.nt (.val (.callB .all (.cons (.comp (.call "is_figures" (.cons (.var 4) .nil)) (.nm 4) (.seq (.var 3)) .yes [4]) .nil))))
  (.cons (.raiseV "BadText" (.var 0))
  .nil)
  .nil)
  (.cons (.ret (.tupS (.var 2) (.comp (.callB .int (.cons (.var 4) .nil)) (.nm 4) (.seq (.var 3)) .yes [4])))
  .nil))))
def b_readX : Ss := (.cons (.ifs (.cmp (.cmp .Eq (.var 0) (.str "")))
  (.cons (.ret (.lst .nil))
  .nil)
  .nil)
  (.cons (.retC "read_row" (.cons (.var 1) (.cons (.var 2) .nil)) (.tp [1, 2]) (.enum (.meth (.var 0) "split" [.split] (.cons (.str "\n") .nil))) [1, 2])
  .nil))
section
variable {R : Rx} {k : Nat} {W : WX} {σ : L2.St} {H : Hp} {Q : VK} {D : Ends} {r : Ss} {l : List HP}
theorem q_raiseV {x : Str} {C : Addr} {nm : Str} {e : E} (hx : R.mg x = some (.ref C)) (hc : RowOk R.P R.w R.K R.mg R.base C nm) (h3 : 3 ≤ k) (h : wE R k e W σ H fun v H1 => ∃ i, v = .int i ∧ i.natAbs < 10 ^ 9 ∧ ∀ d, H1 d = none → W (.ref C) (some d) σ (upd H1 d (.xd [("row", .int i), ("kind", .str nm)]))) :
    wSs R k (.cons (.raiseV x e) r) W D σ H := ⟨C, nm, hx, hc, h3, h⟩
/-- behind what is walked: a comprehension of two names, its element a call -/
def CompX (R : Rx) (k : Nat) (W : WX) (σ : L2.St) (i j : Nat) (x : Str) (es : Es) (Q : VK) (J : It) (H1 : Hp) : Prop := ∀ D, H1 D = none → ∃ W' : Nat → Nat → Hp → Prop, (∃ m, W' 0 m (upd H1 D (.lst []))) ∧ ∀ t m H, W' t m H →
  (J.stop t H ∧ Q (.ref D) H) ∨ (J.go t H ∧ ∃ Nx : Hp → Prop, (∀ H', Nx H' → ∃ m', m' < m ∧ W' (t + 1) m' H') ∧ ∀ v H', J.yld t H v H' → rUnp R.K [i, j] v (wipe σ [i, j]) H' fun σ2 H2 => wipe σ2 [i, j] = wipe σ [i, j] ∧
    ∃ f, R.mg x = some (.ref f) ∧ PySem.W.keepIn R.K (.ref f) = true ∧ wEs R k es W0 σ2 H2 fun vs H1 => ∃ sp, CallOk R.toRt k f sp ∧ sp vs H1 (fun y H4 => ∃ acc, H4 D = some (.lst acc) ∧ acc.length < sizeLine ∧ Nx (upd H4 D (.lst (acc ++ [y])))) fun c d H2 => W c d σ H2)
theorem q_retC {x : Str} {es : Es} {i j : Nat} {it : I} (h : wI R k it W σ H fun J H1 => CompX R k W σ i j x es D.rt J H1) : wSs R k (.cons (.retC x es (.tp [i, j]) it [i, j]) r) W D σ H := h
theorem k_enumX {x : Str} {es : Es} {i j : Nat} {p : Addr} {xs : List V} {Q : VK} (hij : i ≠ j) (L : Nat → List V → List HP) (x0 : SL (L 0 []) H) (sq : ∀ t acc H, SL (L t acc) H → SqL R.K H p xs)
    (st : ∀ t acc D H v, xs[t]? = some v → acc.length = t → SL (pt D (.lst acc) :: L t acc) H → ∃ f, R.mg x = some (.ref f) ∧ PySem.W.keepIn R.K (.ref f) = true ∧ wEs R k es W0 (((wipe σ [i, j]).set i (some (.int (t : Nat)))).set j (some v)) H fun vs H1 => ∃ sp, CallOk R.toRt k f sp ∧ sp vs H1 (CompN D t L) fun c d H2 => W c d σ H2)
    (en : ∀ acc D H, acc.length = xs.length → SL (pt D (.lst acc) :: L xs.length acc) H → Q (.ref D) H) :
    (∃ q ys, V.ref p = .ref q ∧ SqL R.K H q ys ∧ CompX R k W σ i j x es Q (Ite R.K q) H) ∨ ∃ q ys, V.ref p = .ref q ∧ SqT R.K H q ys ∧ CompX R k W σ i j x es Q (Iet R.K q) H := by
  refine .inl ⟨p, xs, rfl, sq _ _ _ x0, fun D hD => ?_⟩
  refine ⟨fun t m H => t + m = xs.length ∧ ∃ acc, acc.length = t ∧ SL (pt D (.lst acc) :: L t acc) H, ⟨xs.length, by omega, [], rfl, x0.new _ hD⟩, fun t m H hw => ?_⟩
  obtain ⟨hm, acc, ha, hx⟩ := hw
  have s1 := sq _ _ _ hx.tail
  by_cases ht : t < xs.length
  · refine .inr ⟨⟨xs, xs[t], s1, List.getElem?_eq_getElem ht⟩, fun H' => ∃ acc, acc.length = t + 1 ∧ SL (pt D (.lst acc) :: L (t + 1) acc) H', fun H' hn => ⟨m - 1, by omega, by omega, hn⟩, fun v H' hy => ?_⟩
    obtain ⟨T, y, rfl, hT, rfl, hv⟩ := hy
    have hx' : SL (pt D (.lst acc) :: L t acc) (upd H T (.tup [.int (t : Nat), y])) := (hx.new _ hT).tail
    refine ⟨T, [.int (t : Nat), y], rfl, .inl (.inl (.inl upd_same)), rfl, ?_⟩
    refine ⟨?_, st t acc D _ y (hv xs s1) ha hx'⟩
    show ((((((σ.set j none).set i none).set i (some _)).set j (some _))).set j none).set i none = (σ.set j none).set i none
    have c : ∀ (l : L2.St) a, (l.set i a).set j none = (l.set j none).set i a := fun l a => List.set_comm _ _ hij
    simp only [List.set_set, c]
  · have : t = xs.length := by omega
    subst this
    exact .inl ⟨⟨xs, s1, Nat.le_refl _⟩, en acc D H ha hx⟩
end
/-- the words of the program, whether a text is one of them -/
structure HasWordsX (R : Rt) (p : Addr) : Prop where
  mg : R.mg "WORDS" = some (.ref p)
  has : ∀ z, KHas R.K R.w p z (decide (∃ q ∈ words, q.1 = z))
  at_ : ∀ w ∈ words, KDct R.K R.w p w.1 (.int (w.2 : Nat))
theorem words_uniq : ∀ p ∈ words, ∀ q ∈ words, p.1 = q.1 → p = q := by decide +kernel
theorem nums_of {ns : List Str} (h : ∀ n ∈ ns, IsNum n) : ∃ ms : List Nat, ns = ms.map numS ∧ ∀ m ∈ ms, m < 10000 := by
  induction ns with
  | nil => exact ⟨[], rfl, fun _ h => by cases h⟩
  | cons a r ih =>
    obtain ⟨ms, rfl, hm⟩ := ih fun n hn => h n (List.mem_cons_of_mem _ hn)
    obtain ⟨m, h1, rfl⟩ := h a List.mem_cons_self
    refine ⟨m :: ms, rfl, fun x hx => ?_⟩
    rcases List.mem_cons.mp hx with rfl | hx
    · exact h1
    · exact hm x hx
def rowXd (i : Int) (nm : Str) : HO := .xd [("row", .int i), ("kind", .str nm)]
def spRowX (C : Addr) : Sp := fun vs H Q E => ∃ (i : Int) (z : Str) (l : List HP), vs = [.int i, .str z] ∧ i.natAbs < 10 ^ 9 ∧ z.length ≤ 1000000 ∧ SL l H ∧ (∀ s, RowIs z s → ∀ q H', SL (pt q (.tup (stepV s)) :: l) H' → Q (.ref q) H') ∧
  ((∀ s, ¬ RowIs z s) → ∀ d H', SL (pt d (rowXd i "BadText") :: l) H' → E (.ref C) (some d) H')
theorem sp_low : ((" " : Str).cps.all (· < 256)) = true := by decide +kernel
theorem nl_low : (("\n" : Str).cps.all (· < 256)) = true := by decide +kernel
theorem w_read_rowX {R : Rx} {k : Nat} {f pw C : Addr} {vs : List V} {H : Hp} {Q : VK} {X : XK} (N1 : Has R.toRt k "is_figures" f spFigX) (N2 : HasWordsX R.toRt pw) (NB : R.mg "BadText" = some (.ref C)) (NE : RowOk R.P R.w R.K R.mg R.base C "BadText") (h3 : 3 ≤ k) (h : spRowX C vs H Q X) :
    wSs R k b_read_rowX (fun cls d _ H' => X cls d H') { nx := fun _ H' => Q .non H', rt := Q } (L2.start N_read_row vs) H := by
  obtain ⟨i, z, l, rfl, hi, hz, x, hq, he⟩ := h
  have sz : (1000100 : Nat) < sizeLine := by rw [sizeLine_eq]; decide
  have sm := split_meas (z := z) tl_sp sp_low
  obtain ⟨w, ns, hsp⟩ : ∃ w ns, Txt.split z " " = w :: ns := by
    cases e : Txt.split z " " with
    | nil => exact absurd e (split_ne tl_sp sp_low)
    | cons w ns => exact ⟨w, ns, rfl⟩
  have hlen : ns.length ≤ 1000000 := by
    have := meas_len (w :: ns)
    rw [← hsp, sm, hsp, List.length_cons] at this
    omega
  have hmem : ∀ n ∈ ns, n.length ≤ 1000000 := fun n hn => by
    have := meas_mem (xs := w :: ns) (List.mem_cons_of_mem _ hn)
    rw [← hsp, sm] at this
    omega
  show wSs R k b_read_rowX _ _ [some (.int i), some (.str z), none, none, none] H
  unfold b_read_rowX
  refine q_unpS ?_
  walk_at "go"
  refine x_bm .split (by decide) ty_s ?_
  walk_at "go"
  refine m_split len1'.2 (by omega) x fun p H1 x1 => ?_
  rw [hsp] at x1
  refine ⟨p, .str w, ns.map V.str, rfl, sq_l (SL.get (.head _) x1), fun q hn => ?_⟩
  have x2 := x1.tail.new (.lst (ns.map V.str)) hn
  generalize upd H1 q (.lst (ns.map V.str)) = H2 at x2
  show wSs R k _ _ _ [some (.int i), some (.str z), some (.str w), some (.ref q), none] H2
  have bad : (∀ s, ¬ RowIs z s) → ∀ (r : Ss) (D : Ends) (H3 : Hp) (σ : L2.St), σ[0]? = some (some (.int i)) → SL (pt q (.lst (ns.map V.str)) :: l) H3 → wSs R k (.cons (.raiseV "BadText" (.var 0)) r) (fun cls d _ H' => X cls d H') D σ H3 := fun hno r D H3 σ h0 y => by
    refine q_raiseV NB NE h3 (e_var h0 ⟨i, rfl, hi, fun d hd => ?_⟩)
    exact he hno d _ (y.tail.new _ hd)
  walk_at "go"
  refine e_inD N2.mg (N2.has w) rfl ?_
  walk_at "go"
  by_cases hw : ∃ q ∈ words, q.1 = w
  rotate_left
  · rw [decide_eq_false hw]
    walk_at "go"
    exact bad (fun s hs => by
      have := hs.2
      rw [hsp] at this
      exact hw ⟨_, hs.1.w, (List.cons.inj this).1.symm⟩) _ _ _ _ rfl x2
  rw [decide_eq_true hw]
  obtain ⟨⟨w', cnt⟩, hwm, rfl⟩ := hw
  walk_at "go"
  refine i_len (len_l (sq_l (SL.get (.head _) x2))) ?_
  walk_at "go"
  refine e_ixD N2.mg (N2.at_ _ hwm) rfl ?_
  walk_at "go"
  by_cases hc : ns.length = cnt
  rotate_left
  · refine x_dt (by simp; omega) ?_
    walk_at "go"
    exact bad (fun s hs => by
      have e := hs.2
      rw [hsp] at e
      obtain ⟨e1, e2⟩ := List.cons.inj e
      have := words_uniq _ hwm _ hs.1.w e1
      have := (Prod.mk.inj this).2
      rw [e2, List.length_map] at hc
      exact hc this.symm) _ _ _ _ rfl x2
  refine x_df (by simp [hc]) ?_
  walk_at "go"
  refine e_comp ?_
  walk_at "go"
  refine k_lst (fun t acc => (fun _ => acc = ((ns.map okFig).map V.bl).take t) :: pt q (.lst (ns.map V.str)) :: l) (x2.add (by simp)) (fun t acc H y => sq_l (SL.get (.tail _ (.head _)) y)) (fun t acc D H1 v hv ha y => ?_) fun acc D H3 ha y => ?_
  · obtain ⟨hacc, y'⟩ := y.swap.fact
    have ht := (List.getElem?_eq_some_iff.mp hv).1
    simp only [List.length_map] at ht
    rw [List.getElem?_map, List.getElem?_eq_getElem ht] at hv
    cases hv
    show wE R k _ W0 [some (.int i), some (.str z), some (.str w'), some (.ref q), some (.str ns[t])] H1 _
    walk_at "go"
    refine e_call N1.mg N1.kp ?_
    walk_at "go"
    refine x_sp N1.ok ⟨_, _, rfl, by have := hmem _ (List.getElem_mem ht); omega, y', fun H4 y4 => ?_⟩
    refine CompN.of ha (by omega) ((y4.add (P := acc ++ [V.bl _] = _) (take_next hacc ?_)).swap)
    rw [List.getElem?_map, List.getElem?_map, List.getElem?_eq_getElem ht]
    rfl
  · obtain ⟨hacc, y'⟩ := y.swap.fact
    rw [List.take_of_length_le (by simp)] at hacc
    subst hacc
    walk_at "go"
    refine i_all (sq_l (SL.get (.head _) y')) ?_
    cases hall : (ns.map okFig).all id with
    | false =>
      walk_at "go"
      exact bad (fun s hs => by
        have e := hs.2
        rw [hsp] at e
        obtain ⟨e1, e2⟩ := List.cons.inj e
        have : (ns.map okFig).all id = true := by
          rw [List.all_map, List.all_eq_true]
          intro n hn
          rw [e2] at hn
          obtain ⟨m, hm, rfl⟩ := List.mem_map.mp hn
          exact okFig_eq (b := true) ⟨fun _ => ⟨m, hs.1.n m hm, rfl⟩, fun _ => rfl⟩
        rw [hall] at this
        cases this) _ _ _ _ rfl y'.tail
    | true =>
      walk_at "go"
      have hnum : ∀ n ∈ ns, IsNum n := fun n hn => by
        rw [List.all_map, List.all_eq_true] at hall
        have := hall n hn
        exact okFig_true this
      obtain ⟨ms, rfl, hms⟩ := nums_of hnum
      rw [List.length_map] at hc hlen
      subst hc
      refine e_tupS ?_
      walk_at "go"
      refine e_comp ?_
      walk_at "go"
      have y2 := y'.tail
      refine k_lst (fun t acc => (fun _ => acc = (ms.map fun n => V.int (n : Nat)).take t) :: pt q (.lst ((ms.map numS).map V.str)) :: l) (y2.add (by simp)) (fun t acc H y => sq_l (SL.get (.tail _ (.head _)) y)) (fun t acc D H1 v hv ha y => ?_) fun acc D H5 ha y => ?_
      · obtain ⟨hacc, y'⟩ := y.swap.fact
        have ht := (List.getElem?_eq_some_iff.mp hv).1
        simp only [List.length_map] at ht
        rw [List.getElem?_map, List.getElem?_map, List.getElem?_eq_getElem ht] at hv
        cases hv
        have hn := hms _ (List.getElem_mem ht)
        show wE R k _ W0 [some (.int i), some (.str z), some (.str w'), some (.ref q), some (.str (numS ms[t]))] H1 _
        walk_at "go"
        refine i_intS (num_int hn) (by have := (numS_len hn).2; omega) ?_
        refine CompN.of ha (by omega) ((y'.add (P := acc ++ [_] = _) (take_next hacc ?_)).swap)
        rw [List.getElem?_map, List.getElem?_eq_getElem ht]
        rfl
      · obtain ⟨hacc, y'⟩ := y.swap.fact
        rw [List.take_of_length_le (by simp)] at hacc
        subst hacc
        refine ⟨D, _, rfl, .inr (sq_l (SL.get (.head _) y')), by simp; omega, fun p hn => ?_⟩
        rw [List.append_nil]
        exact hq (w', ms) ⟨⟨hwm, hms⟩, hsp⟩ p _ (y'.tail.tail.new _ hn)
/-- the rows of a text -/
def rowsOf (t : Str) : List Str := if t = "" then [] else Txt.split t "\n"
/-- the first row that tells no step -/
def FirstBad (rows : List Str) (i : Nat) : Prop := ∃ z, rows[i]? = some z ∧ rowQ z = none ∧ ∀ j z', j < i → rows[j]? = some z' → rowQ z' ≠ none
noncomputable def stepsOf (rows : List Str) : List Stp := rows.map fun z => (rowQ z).getD ("", [])
theorem stepsOf_eq {rows : List Str} (h : ∀ (j : Nat) (z : Str), rows[j]? = some z → rowQ z ≠ none) : rows.map rowQ = (stepsOf rows).map some := by
  unfold stepsOf
  rw [List.map_map]
  refine List.map_congr_left fun z hz => ?_
  obtain ⟨j, hj⟩ := List.getElem?_of_mem hz
  cases e : rowQ z with
  | none => exact absurd e (h j z hj)
  | some s =>
    show some s = some ((rowQ z).getD _)
    rw [e]
    rfl
def spReadX (C : Addr) : Sp := fun vs H Q E => ∃ (t : Str) (l : List HP), vs = [.str t] ∧ t.length ≤ 900000 ∧ SL l H ∧ (∀ S, (rowsOf t).map rowQ = S.map some → ∀ p xs H', SL (pt p (.lst xs) :: StepsA xs S :: l) H' → Q (.ref p) H') ∧
  (∀ i, FirstBad (rowsOf t) i → ∀ d H', SL (pt d (rowXd (i : Nat) "BadText") :: l) H' → E (.ref C) (some d) H')
theorem w_readX {R : Rx} {k : Nat} {f C : Addr} {vs : List V} {H : Hp} {Q : VK} {X : XK} (N1 : Has R.toRt k "read_row" f (spRowX C)) (h : spReadX C vs H Q X) : wSs R k b_readX (fun cls d _ H' => X cls d H') { nx := fun _ H' => Q .non H', rt := Q } (L2.start N_read vs) H := by
  obtain ⟨t, l, rfl, ht0, x, hq, he⟩ := h
  have sz : (1000100 : Nat) < sizeLine := by rw [sizeLine_eq]; decide
  show wSs R k b_readX _ _ [some (.str t), none, none] H
  unfold b_readX
  by_cases h0 : t = ""
  · walk_at "go"
    refine x_dt (decide_eq_true h0) ?_
    walk_at "go"
    rename_i p H1 x1
    exact hq [] (by unfold rowsOf; rw [if_pos h0]; rfl) p [] H1 (StepsA.nil x1).swap
  · walk_at "go"
    refine x_df (decide_eq_false h0) ?_
    walk_at "go"
    have er : rowsOf t = Txt.split t "\n" := by unfold rowsOf; rw [if_neg h0]
    have sm := split_meas (z := t) tl_nl nl_low
    rw [← er] at sm
    obtain ⟨rows, erow⟩ : ∃ rows, rowsOf t = rows := ⟨_, rfl⟩
    rw [erow] at sm hq he er
    have hlen : rows.length ≤ 900001 := by
      have := meas_len rows
      omega
    have hmem : ∀ n ∈ rows, n.length ≤ 900000 := fun n hn => by
      have := meas_mem hn
      omega
    refine q_retC (i_enum ?_)
    walk_at "go"
    refine x_bm .split (by decide) ty_s ?_
    walk_at "go"
    refine m_split len1'.1 (by omega) x fun p H1 x1 => ?_
    rw [← er] at x1
    refine k_enumX (by decide) (fun n acc => (fun _ => ∀ (j : Nat) (z : Str), j < n → rows[j]? = some z → rowQ z ≠ none) :: StepsA acc ((stepsOf rows).take n) :: pt p (.lst (rows.map V.str)) :: l) ((StepsA.nil x1).add (fun j z hj => by omega)) (fun n acc H y => sq_l (SL.get (.tail _ (.tail _ (.head _))) y)) (fun n acc D H2 v hv ha y => ?_) fun acc D H2 ha y => ?_
    · obtain ⟨hpre, y1⟩ := y.swap.fact
      have ht := (List.getElem?_eq_some_iff.mp hv).1
      simp only [List.length_map] at ht
      rw [List.getElem?_map, List.getElem?_eq_getElem ht] at hv
      cases hv
      refine ⟨f, N1.mg, N1.kp, ?_⟩
      show wEs R k _ W0 [some (.str t), some (.int (n : Nat)), some (.str rows[n])] H2 _
      walk_at "go"
      refine ⟨_, N1.ok, (n : Nat), rows[n], _, rfl, by omega, by have := hmem _ (List.getElem_mem ht); omega, y1, fun s hs q H3 y3 => ?_, fun hno d H3 y3 => ?_⟩
      · refine CompN.of ha (by omega) ?_
        have y4 := (SL.swap3 (A := pt q _) (B := pt D _) y3)
        have y6 := y4.swap.perm (l' := pt q (.tup (stepV s)) :: StepsA acc ((stepsOf rows).take n) :: pt D (.lst acc) :: pt p (.lst (rows.map V.str)) :: l) (List.Perm.refl _)
        have y7 := y6.step
        have hs' : (stepsOf rows)[n]? = some s := by
          unfold stepsOf
          rw [List.getElem?_map, List.getElem?_eq_getElem ht]
          show some ((rowQ rows[n]).getD _) = _
          rw [rowQ_some.mpr hs]
          rfl
        rw [take_next (l := stepsOf rows) (acc := (stepsOf rows).take n) (t := n) rfl hs'] at y7
        refine (y7.swap.add fun j z hj hz => ?_).swap
        by_cases hjn : j = n
        · subst hjn
          rw [List.getElem?_eq_getElem ht] at hz
          cases hz
          rw [rowQ_some.mpr hs]
          exact fun e => by cases e
        · exact hpre j z (by omega) hz
      · exact he n ⟨rows[n], List.getElem?_eq_getElem ht, rowQ_none.mpr hno, fun j z' hj hz => hpre j z' hj hz⟩ d H3 (SL.drop (.tl .hd) (SL.drop (.tl .hd) (SL.drop (.tl .hd) y3)))
    · obtain ⟨hpre, y1⟩ := y.swap.fact
      have hl : (stepsOf rows).length = rows.length := by unfold stepsOf; rw [List.length_map]
      rw [List.length_map, List.take_of_length_le (by omega)] at y1
      refine hq (stepsOf rows) (stepsOf_eq fun j z hz => hpre j z ?_ hz) D acc H2 (SL.drop (.tl (.tl .hd)) y1)
      rw [List.length_map]
      exact (List.getElem?_eq_some_iff.mp hz).1
/-- signs that may be compared -/
def Plain (z : Str) : Prop := ∀ c ∈ TL.tl z, c < 1114112
section
variable {R : Rx} {k : Nat} {W : WX} {σ : L2.St} {H : Hp} {Q : VK} {l : List HP}
/-- a comprehension of one name with a test -/
def CompT (R : Rx) (k : Nat) (σ : L2.St) (i : Nat) (elt : E) (tt : T) (Q : VK) (J : It) (H1 : Hp) : Prop := ∀ D, H1 D = none → ∃ W' : Nat → Nat → Hp → Prop, (∃ m, W' 0 m (upd H1 D (.lst []))) ∧ ∀ t m H, W' t m H →
  (J.stop t H ∧ Q (.ref D) H) ∨ (J.go t H ∧ ∃ Nx : Hp → Prop, (∀ H', Nx H' → ∃ m', m' < m ∧ W' (t + 1) m' H') ∧ ∀ x H', J.yld t H x H' → wipe ((wipe σ [i]).set i (some x)) [i] = wipe σ [i] ∧
    wT R k tt W0 ((wipe σ [i]).set i (some x)) H' fun b H3 => if b = true then wE R k elt W0 ((wipe σ [i]).set i (some x)) H3 fun y H4 => ∃ acc, H4 D = some (.lst acc) ∧ acc.length < sizeLine ∧ Nx (upd H4 D (.lst (acc ++ [y]))) else Nx H3)
theorem e_compT {elt : E} {i : Nat} {it : I} {tt : T} (h : wI R k it W σ H fun J H1 => CompT R k σ i elt tt Q J H1) : wE R k (.comp elt (.nm i) it tt [i]) W σ H Q := .inl h
def signV (c : Nat) : V := .str ⟨#[c]⟩
theorem k_strF {i : Nat} {tt : T} {z : Str} {P1 P2 P3 P4 : Prop} (f : Nat → Bool) (hi : i < σ.length) (hz : z.length < sizeLine) (x : SL l H)
    (st : ∀ (c : Nat) (H1 : Hp) (Q' : Bool → Hp → Prop), c ∈ TL.tl z → Q' (f c) H1 → wT R k tt W0 ((wipe σ [i]).set i (some (.str ⟨#[c]⟩))) H1 Q')
    (en : ∀ D H, SL (pt D (.lst (((TL.tl z).filter f).map signV)) :: l) H → Q (.ref D) H) :
    P1 ∨ P2 ∨ P3 ∨ (∃ y, V.str z = .str y ∧ CompT R k σ i (.var i) tt Q (Its y) H) ∨ P4 := by
  refine .inr (.inr (.inr (.inl ⟨z, rfl, fun D hD => ?_⟩)))
  refine ⟨fun t m H => t + m = z.cps.size ∧ SL (pt D (.lst ((((TL.tl z).take t).filter f).map signV)) :: l) H, ⟨z.cps.size, by omega, x.new _ hD⟩, fun t m H hw => ?_⟩
  obtain ⟨hm, hx⟩ := hw
  by_cases ht : t < z.cps.size
  · refine .inr ⟨ht, fun H' => SL (pt D (.lst ((((TL.tl z).take (t + 1)).filter f).map signV)) :: l) H', fun H' hn => ⟨m - 1, by omega, by omega, hn⟩, fun v H' hy => ?_⟩
    obtain ⟨rfl, c, hc, rfl⟩ := hy
    have hc' : (TL.tl z)[t]? = some c := by simpa [TL.tl] using hc
    refine ⟨wipe1 _ _ _, st c _ _ (List.mem_of_getElem? hc') ?_⟩
    have e : ((TL.tl z).take (t + 1)).filter f = ((TL.tl z).take t).filter f ++ if f c = true then [c] else [] := by
      rw [List.take_add_one, hc', List.filter_append]
      show _ ++ List.filter f [c] = _
      congr 1
      cases hf : f c <;> simp [hf]
    cases hf : f c with
    | true =>
      rw [hf] at e
      have e : ((TL.tl z).take (t + 1)).filter f = ((TL.tl z).take t).filter f ++ [c] := e
      rw [if_pos rfl]
      have hlen : ((((TL.tl z).take t).filter f).map signV).length < sizeLine := by
        rw [List.length_map]
        have h1 := List.length_filter_le f ((TL.tl z).take t)
        rw [List.length_take] at h1
        have h2 : z.cps.size = z.length := rfl
        omega
      refine e_var (v := .str ⟨#[c]⟩) ?_ ⟨_, SL.get (.head _) hx, hlen, ?_⟩
      · rw [List.getElem?_set_self]
        rw [wipe_length]
        exact hi
      · rw [e, List.map_append]
        exact hx.wr .hd rfl
    | false =>
      rw [hf] at e
      have e : ((TL.tl z).take (t + 1)).filter f = ((TL.tl z).take t).filter f ++ [] := e
      rw [if_neg (by decide), e, List.append_nil]
      exact hx
  · have : t = z.cps.size := by omega
    subst this
    rw [List.take_of_length_le (by simp [TL.tl])] at hx
    exact .inl ⟨Nat.le_refl _, en D H hx⟩
end
section
variable {K : PySem.W.Frag} {H : Hp} {Q : VK} {l : List HP}
/-- a list of signs against the empty one -/
theorem dp_signs (cs : List Nat) : DpAll K H (cs.map signV) (cs.map fun c => PyData.str ⟨#[c]⟩) := by
  induction cs with
  | nil => exact .nil
  | cons c r ih => exact .cons (.str _) ih
theorem lay_signs {cs : List Nat} (h : ∀ c ∈ cs, c < 1114112) : PyData.canLayAll0 (cs.map fun c => PyData.str ⟨#[c]⟩) = true := by
  induction cs with
  | nil => rfl
  | cons c r ih =>
    rw [List.map_cons, PyData.canLayAll0, ih fun x hx => h x (List.mem_cons_of_mem _ hx), PyData.canLay0]
    have := h c List.mem_cons_self
    simp [PyData.strOk, this]
theorem dep_signs (cs : List Nat) : PyData.depthAll (cs.map fun c => PyData.str ⟨#[c]⟩) = 0 := by
  induction cs with
  | nil => rfl
  | cons c r ih =>
    rw [List.map_cons, PyData.depthAll, ih, PyData.depth]
    rfl
theorem shaped_signs {cs : List Nat} (h : ∀ c ∈ cs, c < 1114112) : SeqAt.shaped (.list (cs.map fun c => PyData.str ⟨#[c]⟩)) = true := by
  unfold SeqAt.shaped
  rw [PyData.canLay0, lay_signs h, PyData.depth, dep_signs]
  rfl
theorem c_neSigns {p q : Addr} {cs : List Nat} (h : ∀ c ∈ cs, c < 1114112) (hp : SqL K H p (cs.map signV)) (hq : SqL K H q []) (h2 : Q (.bl (!cs.isEmpty)) H) : rCmp K .NotEq (.ref p) (.ref q) H Q := .inr (.inl ⟨_, .list [], .lst hp (dp_signs cs), .lst hq .nil, shaped_signs h, shaped_signs (cs := []) (fun _ z => by cases z), by
  cases cs with
  | nil => exact h2
  | cons c r => exact h2⟩)
end
def stepKv1 : List (Str × Int) := [("make", 3), ("grow", 2), ("drop", 1), ("mirror", 2), ("leave", 1), ("stay", 1), ("read", 2), ("write", 3), ("step", 0)]
def stepKv2 : List (Str × Int) := [("lose", 1), ("bring", 2), ("arm", 1), ("again", 0), ("room", 1), ("lacks", 0), ("lost", 0), ("volumes", 0)]
def stepKv3 : List (Str × Int) := [("places", 1), ("copying", 0)]
def stepTab : List (Key × V) := mergeK (mergeK (mergeK [] (kvK stepKv1)) (mergeK [] (kvK stepKv2))) (mergeK [] (kvK stepKv3))
theorem stepTab_eq : stepTab = kvK (stepKv1 ++ stepKv2 ++ stepKv3) := by decide +kernel
theorem step_words : ∀ p ∈ words, valV stepTab (.inr p.1) = some (.int (p.2 : Nat)) := by decide +kernel
theorem step_keys : ∀ p ∈ stepKv1 ++ stepKv2 ++ stepKv3, ∃ q ∈ words, q.1 = p.1 := by decide +kernel
theorem step_not {z : Str} (h : ¬ ∃ q ∈ words, q.1 = z) : valV stepTab (.inr z) = none := by
  rw [stepTab_eq]
  unfold valV
  rw [List.find?_eq_none.mpr]
  · rfl
  · intro kv hkv
    obtain ⟨p, hp, rfl⟩ := List.mem_map.mp hkv
    simp only [decide_eq_true_eq]
    intro e
    obtain ⟨q, hq, hqe⟩ := step_keys p hp
    exact h ⟨q, hq, hqe.trans (Sum.inr.inj e)⟩
def N_stepL : List Str := ["_law_row", "_law_shapes", "_law_words", "_law_found", "_law_word", "_law_sign"]
def b_stepL : Ss := (.cons (.set 1 (.dct (.cons (.str "make") (.cons (.int 3) (.cons (.str "grow") (.cons (.int 2) (.cons (.str "drop") (.cons (.int 1) (.cons (.str "mirror") (.cons (.int 2) (.cons (.str "leave") (.cons (.int 1) (.cons (.str "stay") (.cons (.int 1) (.cons (.str "read") (.cons (.int 2) (.cons (.str "write") (.cons (.int 3) (.cons (.str "step") (.cons (.int 0) .nil))))))))))))))))))))
  (.cons (.exp (.meth (.var 1) "update" [.update] (.cons (.dct (.cons (.str "lose") (.cons (.int 1) (.cons (.str "bring") (.cons (.int 2) (.cons (.str "arm") (.cons (.int 1) (.cons (.str "again") (.cons (.int 0) (.cons (.str "room") (.cons (.int 1) (.cons (.str "lacks") (.cons (.int 0) (.cons (.str "lost") (.cons (.int 0) (.cons (.str "volumes") (.cons (.int 0) .nil))))))))))))))))) .nil)))
  (.cons (.exp (.meth (.var 1) "update" [.update] (.cons (.dct (.cons (.str "places") (.cons (.int 1) (.cons (.str "copying") (.cons (.int 0) .nil))))) .nil)))
  (.cons (.set 2 (.meth (.var 0) "split" [.split] (.cons (.str " ") .nil)))
  (.cons (.ifs (.or2 (.cmp (.cmp .NotIn (.sub (.var 2) (.int 0)) (.var 1))) (.cmp (.cmp .NotEq (.callB .len (.cons (.var 2) .nil)) (.bin .Add (.int 1) (.sub (.var 1) (.sub (.var 2) (.int 0)))))))
  (.cons (.ret .non)
  .nil)
  .nil)
  (.cons (.set 3 (.tup (.cons (.sub (.var 2) (.int 0)) .nil)))
  (.cons (.fors (.nm 4) (.seq (.cut (.var 2) (.part (.int 1)) .no))
  (.cons (.ifs (.or2 (.nt (.cmp (.chain .LtE .LtE (.int 1) (.callB .len (.cons (.var 4) .nil)) (.int 4)))) (.cmp (.cmp .NotEq (.comp (.var 5) (.nm 5) (.seq (.var 4)) (.cmp (.cmp .NotIn (.var 5) (.str "0123456789"))) [5]) (.lst .nil))))
  (.cons (.ret .non)
  .nil)
  .nil)
  (.cons (.ifs (.cmp (.cmp .NotEq (.callB .str (.cons (.callB .int (.cons (.var 4) .nil)) .nil)) (.var 4)))
  (.cons (.ret .non)
  .nil)
  .nil)
  (.cons (.set 3 (.bin .Add (.var 3) (.tup (.cons (.callB .int (.cons (.var 4) .nil)) .nil))))
  .nil))))
  (.cons (.ret (.var 3))
  .nil))))))))
def spStepL : Sp := fun vs H Q _ => ∃ (z : Str) (l : List HP), vs = [.str z] ∧ z.length ≤ 1000000 ∧ Plain z ∧ SL l H ∧ (∀ s, RowIs z s → ∀ q H', SL (pt q (.tup (stepV s)) :: l) H' → Q (.ref q) H') ∧
  ((∀ s, ¬ RowIs z s) → ∀ H', SL l H' → Q .non H')
theorem split_mem {z p : Str} (h : p ∈ Txt.split z " ") : ∀ c ∈ TL.tl p, c ∈ TL.tl z := by
  have e := TL.split_spl z " " (by rw [tl_sp]; simp) (TL.kind_ok sp_low)
  rw [tl_sp] at e
  have hp : TL.tl p ∈ TL.spl [32] 0 [] (TL.tl z) := by
    rw [← e]
    exact List.mem_map_of_mem h
  have key : ∀ (l acc : List Nat), ∀ q ∈ TL.spl [32] 0 acc l, ∀ c ∈ q, c ∈ acc ∨ c ∈ l := by
    intro l
    induction l with
    | nil =>
      intro acc q hq c hc
      rw [TL.spl_nil] at hq
      rw [List.mem_singleton.mp hq] at hc
      exact .inl hc
    | cons a r ih =>
      intro acc q hq c hc
      cases hpre : TL.pre [32] (a :: r) with
      | true =>
        rw [TL.spl_hit hpre] at hq
        rcases List.mem_cons.mp hq with rfl | hq
        · exact .inl hc
        · rcases ih [] q hq c hc with z | z
          · cases z
          · exact .inr (List.mem_cons_of_mem _ z)
      | false =>
        rw [TL.spl_miss hpre] at hq
        rcases ih _ q hq c hc with z | z
        · rcases List.mem_append.mp z with z | z
          · exact .inl z
          · rw [List.mem_singleton.mp z]
            exact .inr List.mem_cons_self
        · exact .inr (List.mem_cons_of_mem _ z)
  intro c hc
  rcases key _ _ _ hp c hc with z | z
  · cases z
  · exact z
theorem cutV_from (xs : List V) (i : Nat) : cutV xs (some ((i : Nat) : Int)) none = xs.drop i := by
  unfold cutV
  rw [HT.sIx_none, HT.sIx_nat, List.take_of_length_le (by simp)]
  by_cases h : i ≤ xs.length
  · rw [Nat.min_eq_left h]
  · rw [Nat.min_eq_right (by omega), List.drop_length, List.drop_of_length_le (by omega)]
theorem cutV_to (xs : List V) (i : Nat) : cutV xs none (some ((i : Nat) : Int)) = xs.take i := by
  unfold cutV
  rw [HT.sIx_none, HT.sIx_nat, List.drop_zero, Nat.sub_zero]
  by_cases h : i ≤ xs.length
  · rw [Nat.min_eq_left h]
  · rw [Nat.min_eq_right (by omega), List.take_length, List.take_of_length_le (by omega)]
theorem cut_l {K : PySem.W.Frag} {H : Hp} {Q : VK} {p : Addr} {xs : List V} {lo hi : Option Int} (e : SqL K H p xs) (h : ∀ q, H q = none → Q (.ref q) (upd H q (.lst (cutV xs lo hi)))) : rCut K (.ref p) lo hi H Q := .inl ⟨p, xs, rfl, e, h⟩
theorem i_strM {K : PySem.W.Frag} {xc : XC} {H : Hp} {Q : VK} {m : Nat} (h : m < 10000) (q : Q (.str (numS m)) H) : rBi K xc .str [.int (m : Nat)] H Q := .inl ⟨_, rfl, by
  by_cases h0 : ((m : Nat) : Int).natAbs = 0
  · rw [h0]; decide
  · rw [Nat.log2_lt h0]
    exact Nat.lt_of_lt_of_le (by omega : ((m : Nat) : Int).natAbs < 10000) (by decide +kernel), q⟩
theorem w_stepL {R : Rx} {k : Nat} {vs : List V} {H : Hp} {Q : VK} {X : XK} (h : spStepL vs H Q X) : wSs R k b_stepL (fun cls d _ H' => X cls d H') { nx := fun _ H' => Q .non H', rt := Q } (L2.start N_stepL vs) H := by
  obtain ⟨z, l, rfl, hz, hpl, x, hq, hno⟩ := h
  have sz : (1000100 : Nat) < sizeLine := by rw [sizeLine_eq]; decide
  have sm := split_meas (z := z) tl_sp sp_low
  obtain ⟨w, ns, hsp⟩ : ∃ w ns, Txt.split z " " = w :: ns := by
    cases e : Txt.split z " " with
    | nil => exact absurd e (split_ne tl_sp sp_low)
    | cons w ns => exact ⟨w, ns, rfl⟩
  have hlen : ns.length ≤ 1000000 := by
    have := meas_len (w :: ns)
    rw [← hsp, sm, hsp, List.length_cons] at this
    omega
  have hmem : ∀ n ∈ ns, n.length ≤ 1000000 := fun n hn => by
    have := meas_mem (xs := w :: ns) (List.mem_cons_of_mem _ hn)
    rw [← hsp, sm] at this
    omega
  have hmp : ∀ n ∈ ns, ∀ c ∈ TL.tl n, c < 1114112 := fun n hn c hc => hpl c (split_mem (by rw [hsp]; exact List.mem_cons_of_mem _ hn) c hc)
  show wSs R k b_stepL _ _ [some (.str z), none, none, none, none, none] H
  unfold b_stepL
  walk_at "go"
  refine e_dctC stepKv1 (by decide) x fun p6 H6 x6 => ?_
  clear x
  walk_at "go"
  refine x_bm .update (by decide) (ty_d (SL.get (.head _) x6)) (es_cons ?_)
  refine e_dctC stepKv2 (by decide) x6 fun p7 H7 x7 => ?_
  clear x6
  walk_at "go"
  refine m_upd (SL.ne rfl x7.swap) x7 (.tl .hd) (.head _) (by have : (mergeK [] (kvK stepKv1)).length + (mergeK [] (kvK stepKv2)).length = 17 := by decide +kernel
                                                              omega) fun H8 x8 => ?_
  have x8 := x8.tail
  clear x7
  walk_at "go"
  refine x_bm .update (by decide) (ty_d (SL.get (.head _) x8)) (es_cons ?_)
  refine e_dctC stepKv3 (by decide) x8 fun p9 H9 x9 => ?_
  clear x8
  walk_at "go"
  refine m_upd (SL.ne rfl x9.swap) x9 (.tl .hd) (.head _) (by have : (mergeK (mergeK [] (kvK stepKv1)) (mergeK [] (kvK stepKv2))).length + (mergeK [] (kvK stepKv3)).length = 19 := by decide +kernel
                                                              omega) fun H10 x10 => ?_
  have x10 : SL (pt p6 (.dK stepTab) :: l) H10 := x10.tail
  clear x9
  walk_at "go"
  refine x_bm .split (by decide) ty_s ?_
  walk_at "go"
  refine m_split len1'.2 (by omega) x10 fun p H1 x1 => ?_
  rw [hsp] at x1
  clear x10
  walk_at "go"
  refine .inr (.inr (.inl ⟨p6, valV stepTab (.inr w), rfl, DGet.k (k := .inr w) (SL.get (.tail _ (.head _)) x1), ?_⟩))
  by_cases hw : ∃ q ∈ words, q.1 = w
  rotate_left
  · rw [step_not hw]
    walk_at "go"
    refine hno (fun s hs => ?_) _ x1.tail.tail
    have := hs.2
    rw [hsp] at this
    exact hw ⟨_, hs.1.w, (List.cons.inj this).1.symm⟩
  obtain ⟨⟨w', cnt⟩, hwm, rfl⟩ := hw
  rw [step_words _ hwm]
  walk_at "go"
  refine i_len (len_l (sq_l (SL.get (.head _) x1))) ?_
  walk_at "go"
  refine .inr ⟨p6, .int (cnt : Nat), rfl, ?_, ?_⟩
  · rw [← step_words _ hwm]
    exact DGet.k (k := .inr w') (SL.get (.tail _ (.head _)) x1)
  walk_at "go"
  have hl1 : ((w' :: ns).map V.str).length = ns.length + 1 := by simp
  by_cases hc : ns.length = cnt
  rotate_left
  · refine x_dt (by rw [hl1]; simp; omega) ?_
    walk_at "go"
    refine hno (fun s hs => ?_) _ x1.tail.tail
    have e := hs.2
    rw [hsp] at e
    obtain ⟨e1, e2⟩ := List.cons.inj e
    have := words_uniq _ hwm _ hs.1.w e1
    have := (Prod.mk.inj this).2
    rw [e2, List.length_map] at hc
    exact hc this.symm
  refine x_df (by rw [hl1]; simp; omega) ?_
  walk_at "go"
  have badAt : ∀ t ∈ ns, ¬ IsNum t → ∀ s, ¬ RowIs z s := fun t ht hn s hs => by
    have e := hs.2
    rw [hsp] at e
    obtain ⟨e1, e2⟩ := List.cons.inj e
    rw [e2] at ht
    obtain ⟨m, hm, rfl⟩ := List.mem_map.mp ht
    exact hn ⟨m, hs.1.n m hm, rfl⟩
  rename_i pf Hf xf
  refine e_cut ?_
  walk_at "go"
  refine o_part ?_
  walk_at "go"
  refine cut_l (sq_l (SL.get (.tail _ (.head _)) xf)) fun q hn => ?_
  rw [show (some (1 : Int)) = some (((1 : Nat) : Nat) : Int) from rfl, cutV_from]
  have xq := xf.new (.lst (((w' :: ns).map V.str).drop 1)) hn
  have xq : SL (pt q (.lst (ns.map V.str)) :: pt pf (.tup (stepV (w', []))) :: pt p (.lst ((w' :: ns).map V.str)) :: pt p6 (.dK stepTab) :: l) (upd Hf q (.lst (((w' :: ns).map V.str).drop 1))) := xq
  generalize upd Hf q (.lst (((w' :: ns).map V.str).drop 1)) = Hq at xq
  refine l_lst (p := q) (xs := ns.map V.str) (fun j σ H => ∃ (ms : List Nat) (f : Addr) (o4 o5 : Option V), ms.length = j ∧ ns.take j = ms.map numS ∧ (∀ m ∈ ms, m < 10000) ∧ SL (pt f (.tup (stepV (w', ms))) :: pt q (.lst (ns.map V.str)) :: l) H ∧ σ = [some (.str z), some (.ref p6), some (.ref p), some (.ref f), o4, o5]) (sq_l (SL.get (.head _) xq)) ⟨[], pf, _, _, rfl, by simp, (fun _ h => by cases h), SL.drop (.tl (.tl .hd)) (SL.drop (.tl (.tl .hd)) xq.swap), rfl⟩ (fun j σ H I => by
    obtain ⟨_, _, _, _, _, _, _, y, _⟩ := I
    exact sq_l (SL.get (.tail _ (.head _)) y)) (fun j v σ H hv I => ?_) fun σ H I => ?_
  · obtain ⟨ms, f, o4, o5, hj, htk, hms, y, rfl⟩ := I
    have ht := (List.getElem?_eq_some_iff.mp hv).1
    simp only [List.length_map] at ht
    rw [List.getElem?_map, List.getElem?_eq_getElem ht] at hv
    cases hv
    obtain ⟨t, et⟩ : ∃ t, ns[j] = t := ⟨_, rfl⟩
    rw [et]
    have tm : t ∈ ns := et ▸ List.getElem_mem ht
    have tl0 := hmem t tm
    have tp := hmp t tm
    show wSs R k _ _ _ [some (.str z), some (.ref p6), some (.ref p), some (.ref f), some (.str t), o5] H
    walk_at "go"
    refine i_len (len_s (by omega)) ?_
    walk_at "go"
    by_cases h1 : 1 ≤ t.length
    rotate_left
    · refine x_df (decide_eq_false (by omega)) ?_
      walk_at "go"
      exact hno (badAt t tm fun hi => h1 ((fig_iff t).mpr hi).1.1) _ y.tail.tail
    refine x_dt (decide_eq_true (by omega)) ?_
    walk_at "go"
    by_cases h2 : t.length ≤ 4
    rotate_left
    · rw [show (decide ((t.length : Int) ≤ 4)) = false from decide_eq_false (by omega)]
      walk_at "go"
      exact hno (badAt t tm fun hi => h2 ((fig_iff t).mpr hi).1.2) _ y.tail.tail
    rw [show (decide ((t.length : Int) ≤ 4)) = true from decide_eq_true (by omega)]
    walk_at "go"
    refine e_compT ?_
    walk_at "go"
    refine k_strF (fun c => !decide (c ∈ TL.tl figures)) (show (5 : Nat) < 6 by decide) (by omega) y (fun c H1 Q' hc q' => ?_) fun D H1 y1 => ?_
    · show wT R k _ W0 [some (.str z), some (.ref p6), some (.ref p), some (.ref f), some (.str t), some (.str ⟨#[c]⟩)] H1 Q'
      walk_at "go"
      exact .inr (.inr (.inr ⟨c, figures, rfl, rfl, _, rfl, q'⟩))
    walk_at "go"
    rename_i pe He ye
    refine c_neSigns (cs := (TL.tl t).filter fun c => !decide (c ∈ TL.tl figures)) (fun c hc => tp c (List.mem_filter.mp hc).1) (sq_l (SL.get (.tail _ (.head _)) ye)) (sq_l (SL.get (.head _) ye)) ?_
    have y2 : SL (pt f (.tup (stepV (w', ms))) :: pt q (.lst (ns.map V.str)) :: l) He := ye.tail.tail
    clear ye y1 y
    by_cases hd : ∀ c ∈ TL.tl t, c ∈ TL.tl figures
    rotate_left
    · rw [show (((TL.tl t).filter fun c => !decide (c ∈ TL.tl figures)).isEmpty) = false from by
        cases e : ((TL.tl t).filter fun c => !decide (c ∈ TL.tl figures)) with
        | nil =>
          refine absurd (fun c hc => ?_) hd
          have := List.filter_eq_nil_iff.mp e c hc
          simpa using this
        | cons _ _ => rfl]
      walk_at "go"
      exact hno (badAt t tm fun hi => hd ((fig_iff t).mpr hi).2.1) _ y2.tail.tail
    rw [show (((TL.tl t).filter fun c => !decide (c ∈ TL.tl figures)).isEmpty) = true from by
      rw [List.filter_eq_nil_iff.mpr fun c hc => by simp [hd c hc]]
      rfl]
    obtain ⟨m, hi, hm, hiff⟩ := law_fig h1 h2 hd
    walk_at "go"
    refine i_intS hi (by omega) ?_
    walk_at "go"
    refine i_strM hm ?_
    walk_at "go"
    refine c_neS ?_
    by_cases he : numS m = t
    rotate_left
    · rw [decide_eq_false he]
      walk_at "go"
      exact hno (badAt t tm fun hi => he (hiff.mpr hi)) _ y2.tail.tail
    rw [decide_eq_true he]
    walk_at "go"
    refine i_intS hi (by omega) ?_
    walk_at "go"
    rename_i pn Hn yn
    refine .inr (.inr (.inr ⟨f, pn, stepV (w', ms), [.int (m : Nat)], rfl, rfl, st_t (SL.get (.tail _ (.head _)) yn), st_t (SL.get (.head _) yn), ?_, (fun e => by cases e), (fun _ e => by cases e), fun _ _ pr hpr => ?_⟩))
    · have : ms.length ≤ 1000000 := by omega
      simp [stepV]
      omega
    have yr := yn.new (.tup (stepV (w', ms) ++ [.int (m : Nat)])) hpr
    walk_at "go"
    refine ⟨ms ++ [m], pr, _, _, by simp [hj], ?_, fun x hx => ?_, ?_, rfl⟩
    · rw [List.take_add_one, htk, List.getElem?_eq_getElem ht, et, ← he]
      simp
    · rcases List.mem_append.mp hx with hx | hx
      · exact hms x hx
      · rw [List.mem_singleton.mp hx]
        exact hm
    · have e : stepV (w', ms ++ [m]) = stepV (w', ms) ++ [.int (m : Nat)] := by simp [stepV]
      rw [e]
      exact SL.drop (.tl .hd) (SL.drop (.tl .hd) yr)
  · obtain ⟨ms, f, o4, o5, hj, htk, hms, y, rfl⟩ := I
    rw [List.length_map] at hj htk
    rw [List.take_of_length_le (Nat.le_refl _)] at htk
    walk_at "go"
    refine hq (w', ms) ⟨⟨?_, hms⟩, ?_⟩ f H (SL.drop (.tl .hd) y)
    · show (w', ms.length) ∈ words
      rw [hj, hc]
      exact hwm
    · rw [hsp, htk]
def N_spoilt : List Str := ["_law_box", "_law_text", "_law_deed", "_law_place", "_law_every", "_law_sign", "_law_two", "_law_rows", "_law_k", "_law_words", "_law_j", "_law_odd"]
def b_spT : Ss := (.cons (.ifs (.cmp (.cmp .Lt (.var 2) (.int 3)))
  (.cons (.ret (.bin .Add (.bin .Add (.cut (.var 1) .no (.part (.var 3))) (.var 5)) (.cut (.var 1) (.part (.bin .Add (.var 3) (.callB .int (.cons (.cmp .Gt (.var 2) (.int 0)) .nil)))) .no)))
  .nil)
  .nil)
  (.cons (.ifs (.cmp (.cmp .Eq (.var 2) (.int 3)))
  (.cons (.set 6 (.rev (.cut (.var 1) (.part (.var 3)) (.part (.bin .Add (.var 3) (.int 2))))))
  (.cons (.ret (.bin .Add (.bin .Add (.cut (.var 1) .no (.part (.var 3))) (.var 6)) (.cut (.var 1) (.part (.bin .Add (.var 3) (.int 2))) .no)))
  .nil))
  .nil)
  (.cons (.set 7 (.meth (.var 1) "split" [.split] (.cons (.str "\n") .nil)))
  (.cons (.set 8 (.call "_law_take" (.cons (.var 0) (.cons (.callB .len (.cons (.var 7) .nil)) .nil))))
  (.cons (.ifs (.cmp (.cmp .Lt (.var 2) (.int 6)))
  (.cons (.ret (.meth (.str "\n") "join" [.join] (.cons (.bin .Add (.bin .Add (.cut (.var 7) .no (.part (.var 8))) (.bin .Mult (.cut (.var 7) (.part (.var 8)) (.part (.bin .Add (.var 8) (.int 1)))) (.sub (.lst (.cons (.int 0) (.cons (.int 2) .nil))) (.bin .Sub (.var 2) (.int 4))))) (.cut (.var 7) (.part (.bin .Add (.var 8) (.int 1))) .no)) .nil)))
  .nil)
  .nil)
  (.cons (.set 9 (.meth (.sub (.var 7) (.var 8)) "split" [.split] (.cons (.str " ") .nil)))
  (.cons (.set 10 (.call "_law_take" (.cons (.var 0) (.cons (.callB .len (.cons (.var 9) .nil)) .nil))))
  (.cons (.set 11 (.lst (.cons (.str "") (.cons (.str "0") (.cons (.str "00") (.cons (.str "07") (.cons (.str "9999") (.cons (.str "10000") (.cons (.str "-1") (.cons (.str "make") (.cons (.str "step") (.cons (.str "steps") (.cons (.str "Again") (.cons (.str "lose") (.cons (.str "room") (.cons (.str "lost") (.cons (.str "x") .nil)))))))))))))))))
  (.cons (.set 9 (.bin .Add (.bin .Add (.cut (.var 9) .no (.part (.var 10))) (.sub (.lst (.cons (.lst .nil) (.cons (.bin .Mult (.lst (.cons (.sub (.var 9) (.var 10)) .nil)) (.int 2)) (.cons (.lst (.cons (.sub (.var 11) (.call "_law_take" (.cons (.var 0) (.cons (.int 15) .nil)))) .nil)) .nil)))) (.bin .Sub (.var 2) (.int 6)))) (.cut (.var 9) (.part (.bin .Add (.var 10) (.int 1))) .no)))
  (.cons (.ret (.meth (.str "\n") "join" [.join] (.cons (.bin .Add (.bin .Add (.cut (.var 7) .no (.part (.var 8))) (.lst (.cons (.meth (.str " ") "join" [.join] (.cons (.var 9) .nil)) .nil))) (.cut (.var 7) (.part (.bin .Add (.var 8) (.int 1))) .no)) .nil)))
  .nil))))))))))
def b_spoilt : Ss := (.cons (.par 2 3 (.call "_law_take" (.cons (.var 0) (.cons (.int 9) .nil))) (.call "_law_take" (.cons (.var 0) (.cons (.bin .Add (.callB .len (.cons (.var 1) .nil)) (.int 1)) .nil))))
  (.cons (.set 4 (.str "0123456789 \nabcdefghijklmnopqrstuvwxyz!#$&'()*+,-./:;<=>?@ABCDEFGHIJKLMNOPQRSTUVWXYZ[]^_{|}~"))
  (.cons (.set 5 (.sub (.var 4) (.call "_law_take" (.cons (.var 0) (.cons (.sub (.lst (.cons (.int 14) (.cons (.int 92) .nil))) (.call "_law_take" (.cons (.var 0) (.cons (.int 2) .nil)))) .nil)))))
  (.cons (.ifs (.cmp (.cmp .Eq (.var 2) (.int 1)))
  (.cons (.set 5 (.str ""))
  .nil)
  .nil)
  b_spT))))
theorem Plain.app {a b : Str} (h : Plain a) (g : Plain b) : Plain (a ++ b) := fun c hc => by
  rw [TL.tl_append] at hc
  rcases List.mem_append.mp hc with z | z
  · exact h c z
  · exact g c z
theorem Plain.cut {z : Str} {lo hi : Option Int} (h : Plain z) : Plain (cutS z lo hi) := fun c hc => by
  have hc : c ∈ ((z.cps.toList.drop (HT.sIx z.length 0 lo)).take (HT.sIx z.length z.length hi - HT.sIx z.length 0 lo)).toArray.toList := hc
  rw [List.toList_toArray] at hc
  exact h c (List.mem_of_mem_drop (List.mem_of_mem_take hc))
def PlainL (xs : List Str) : Prop := ∀ z ∈ xs, Plain z
theorem PlainL.app {a b : List Str} (h : PlainL a) (g : PlainL b) : PlainL (a ++ b) := fun c hc => by
  rcases List.mem_append.mp hc with z | z
  · exact h c z
  · exact g c z
theorem PlainL.take {a : List Str} (h : PlainL a) (i : Nat) : PlainL (a.take i) := fun c hc => h c (List.mem_of_mem_take hc)
theorem PlainL.drop {a : List Str} (h : PlainL a) (i : Nat) : PlainL (a.drop i) := fun c hc => h c (List.mem_of_mem_drop hc)
theorem plain_join {y : Str} {ps : List Str} (hy : Plain y) (h : PlainL ps) : Plain (Txt.join y ps) := fun c hc => by
  rw [TL.join_eq, TL.tl_join] at hc
  rcases joinL_mem hc with z | ⟨p, hp, z⟩
  · exact hy c z
  · obtain ⟨q, hq, rfl⟩ := List.mem_map.mp hp
    exact h q hq c z
theorem spl_mem {s : Nat} : ∀ (l acc : List Nat), ∀ q ∈ TL.spl [s] 0 acc l, ∀ c ∈ q, c ∈ acc ∨ c ∈ l := by
  intro l
  induction l with
  | nil =>
    intro acc q hq c hc
    rw [TL.spl_nil] at hq
    rw [List.mem_singleton.mp hq] at hc
    exact .inl hc
  | cons a r ih =>
    intro acc q hq c hc
    cases hpre : TL.pre [s] (a :: r) with
    | true =>
      rw [TL.spl_hit hpre] at hq
      rcases List.mem_cons.mp hq with rfl | hq
      · exact .inl hc
      · rcases ih [] q hq c hc with z | z
        · cases z
        · exact .inr (List.mem_cons_of_mem _ z)
    | false =>
      rw [TL.spl_miss hpre] at hq
      rcases ih _ q hq c hc with z | z
      · rcases List.mem_append.mp z with z | z
        · exact .inl z
        · rw [List.mem_singleton.mp z]
          exact .inr List.mem_cons_self
      · exact .inr (List.mem_cons_of_mem _ z)
theorem plain_split {z y : Str} {s : Nat} (ey : TL.tl y = [s]) (hk : y.cps.all (· < 256) = true) (h : Plain z) : PlainL (Txt.split z y) := fun p hp c hc => by
  have e := TL.split_spl z y (by rw [ey]; simp) (TL.kind_ok hk)
  rw [ey] at e
  have hp : TL.tl p ∈ TL.spl [s] 0 [] (TL.tl z) := by
    rw [← e]
    exact List.mem_map_of_mem hp
  rcases spl_mem _ _ _ hp c hc with q | q
  · cases q
  · exact h c q
theorem plain_b {z : Str} (h : (TL.tl z).all (fun c => decide (c < 1114112)) = true) : Plain z := fun c hc => of_decide_eq_true (List.all_eq_true.mp h c hc)
section
variable {K : PySem.W.Frag} {H : Hp} {Q : VK} {l : List HP}
theorem s_strN {z : Str} {j : Nat} {c : Nat} (b : z.length ≤ sizeLine) (e : (TL.tl z)[j]? = some c) (h : Q (.str ⟨#[c]⟩) H) : rSubs K (.str z) (.int (j : Nat)) H Q :=
  .inl (.inr (.inr ⟨z, (j : Nat), c, rfl, rfl, b, by
    have hj : j < z.cps.toList.length := (List.getElem?_eq_some_iff.mp e).1
    unfold atI
    rw [ixN_nat (by exact hj)]
    exact e, h⟩))
theorem cut_s {z : Str} {lo hi : Option Int} (b : z.length ≤ sizeLine) (h : Q (.str (cutS z lo hi)) H) : rCut K (.str z) lo hi H Q := .inr (.inr ⟨z, rfl, b, h⟩)
theorem m_joinL {a : Str} {p : Addr} {ys : List Str} {s : Nat} (ea : TL.tl a = [s]) (e : SqL K H p (ys.map V.str)) (b : meas ys ≤ 16777216) (h : Q (.str (Txt.join a ys)) H) : rMt K .join (.str a) [.ref p] H Q :=
  ⟨a, p, ys, rfl, rfl, .inl e, by rw [sum_join ea]; exact b, h⟩
theorem b_repL {p : Addr} {xs : List V} {n : Nat} (e : H p = some (.lst xs)) (hn : n ≤ 2) (b : xs.length * 2 ≤ sizeLine) (h : NewO H (.lst (List.replicate n xs).flatten) Q) : rBin K .Mult (.ref p) (.int (n : Nat)) H Q :=
  .inr (.inr ⟨p, (n : Nat), xs, rfl, rfl, e, by omega, by omega, by
    rw [Int.toNat_natCast]
    exact Nat.le_trans (Nat.mul_le_mul_left _ hn) b, fun q hq => by
    rw [Int.toNat_natCast]
    exact h q hq⟩)
end
theorem e_revS {R : Rx} {k : Nat} {W : WX} {σ : L2.St} {H : Hp} {Q : VK} {a : E} (h : wE R k a W σ H fun x H1 => rRev R.K x H1 Q ∨ rRevS x H1 Q) : wE R k (.rev a) W σ H Q := h
theorem cutV_mid (xs : List V) (i : Nat) : cutV xs (some ((i : Nat) : Int)) (some (((i + 1 : Nat) : Nat) : Int)) = (xs.drop i).take 1 := by
  unfold cutV
  rw [HT.sIx_nat, HT.sIx_nat]
  by_cases h : i + 1 ≤ xs.length
  · have a1 : min i xs.length = i := by omega
    have a2 : min (i + 1) xs.length = i + 1 := by omega
    rw [a1, a2, Nat.add_sub_cancel_left]
  · have a2 : min (i + 1) xs.length = xs.length := by omega
    rw [a2]
    by_cases h2 : i ≤ xs.length
    · have a1 : min i xs.length = i := by omega
      rw [a1, List.drop_of_length_le (by omega : xs.length ≤ i)]
      simp
    · have a1 : min i xs.length = xs.length := by omega
      rw [a1, List.drop_length, List.drop_of_length_le (by omega)]
      simp
theorem log_ok {n : Int} (h0 : 0 < n) (h : n ≤ 1000001) : n.natAbs.log2 < 9000 := by
  rw [Nat.log2_lt (by omega)]
  exact Nat.lt_of_lt_of_le (by omega : n.natAbs < 2000000) (Nat.le_trans (by decide : (2000000 : Nat) ≤ 2 ^ 21) (Nat.pow_le_pow_right (by decide) (by decide)))
def everyS : Str := "0123456789 \nabcdefghijklmnopqrstuvwxyz!#$&'()*+,-./:;<=>?@ABCDEFGHIJKLMNOPQRSTUVWXYZ[]^_{|}~"
theorem every_len : everyS.length = 92 ∧ (TL.tl everyS).all (fun c => decide (c < 1114112)) = true := by decide +kernel
def spSpoilt : Sp := fun vs H Q _ => ∃ (a : Addr) (z : Str) (l : List HP), vs = [.ref a, .str z] ∧ z.length ≤ 100000 ∧ Plain z ∧ SL (BoxA a :: l) H ∧ ∀ y : Str, y.length ≤ 3 * z.length + 30 → Plain y → ∀ H', SL (BoxA a :: l) H' → Q (.str y) H'
theorem flat_rep (n : Nat) (xs : List Str) : (List.replicate n (xs.map V.str)).flatten = ((List.replicate n xs).flatten).map V.str := by
  rw [List.map_flatten, List.map_replicate]
theorem meas_rep {n : Nat} (hn : n ≤ 2) (xs : List Str) : meas (List.replicate n xs).flatten ≤ 2 * meas xs := by
  have : n = 0 ∨ n = 1 ∨ n = 2 := by omega
  rcases this with rfl | rfl | rfl
  · exact Nat.zero_le _
  · simp [meas_append]
    omega
  · simp [meas_append]
    omega
theorem plain_rep {n : Nat} {xs : List Str} (h : PlainL xs) : PlainL (List.replicate n xs).flatten := fun z hz => by
  obtain ⟨l, hl, hz⟩ := List.mem_flatten.mp hz
  rw [List.eq_of_mem_replicate hl] at hz
  exact h z hz
def oddW : List Str := ["", "0", "00", "07", "9999", "10000", "-1", "make", "step", "steps", "Again", "lose", "room", "lost", "x"]
theorem oddW_ok : ∀ y ∈ oddW, y.length ≤ 5 ∧ (TL.tl y).all (fun c => decide (c < 1114112)) = true := by decide +kernel
theorem oddW_len : oddW.length = 15 := rfl
theorem w_spT {R : Rx} {k : Nat} {f a : Addr} {H : Hp} {Q : VK} {X : XK} {z sg : Str} {l : List HP} {j pl : Nat} {ev : V} (N1 : Has R.toRt k "_law_take" f spTake) (hz : z.length ≤ 100000) (hpz : Plain z) (hj : j < 9) (hp : pl ≤ z.length) (hs : sg.length ≤ 1) (hps : Plain sg)
    (x : SL (BoxA a :: l) H) (hq : ∀ y : Str, y.length ≤ 3 * z.length + 30 → Plain y → ∀ H', SL (BoxA a :: l) H' → Q (.str y) H') :
    wSs R k b_spT (fun cls d _ H' => X cls d H') { nx := fun _ H' => Q .non H', rt := Q } [some (.ref a), some (.str z), some (.int (j : Nat)), some (.int (pl : Nat)), some ev, some (.str sg), none, none, none, none, none, none] H := by
  have sz : (1000100 : Nat) < sizeLine := by rw [sizeLine_eq]; decide
  have cl : ∀ lo hi, (cutS z lo hi).length ≤ z.length := fun lo hi => cutS_length z lo hi
  unfold b_spT
  walk_at "go"
  by_cases h3 : j < 3
  · refine x_dt (decide_eq_true (by omega)) ?_
    walk_at "go"
    refine e_cut ?_
    walk_at "go"
    refine o_no (o_part ?_)
    walk_at "go"
    refine cut_s (by omega) ?_
    walk_at "go"
    refine b_addS (by have := cl none (some ((pl : Nat) : Int)); omega) ?_
    walk_at "go"
    refine e_cut ?_
    walk_at "go"
    refine o_part ?_
    walk_at "go"
    refine cut_s (by omega) ?_
    have c1 := cl none (some ((pl : Nat) : Int))
    refine b_addS (by have := cl (some (((pl : Nat) : Int) + (if decide ((0 : Int) < (j : Nat)) = true then 1 else 0))) none; rw [Str.length_append]; omega) ?_
    have c2 := cl (some (((pl : Nat) : Int) + (if decide ((0 : Int) < (j : Nat)) = true then 1 else 0))) none
    refine hq _ ?_ ((hpz.cut.app hps).app hpz.cut) _ x
    rw [Str.length_append, Str.length_append]
    omega
  refine x_df (decide_eq_false (by omega)) ?_
  walk_at "go"
  by_cases h4 : j = 3
  · refine x_dt (decide_eq_true (by rw [h4]; rfl)) ?_
    walk_at "go"
    refine e_revS (e_cut ?_)
    walk_at "go"
    refine o_part ?_
    walk_at "go"
    refine o_part ?_
    walk_at "go"
    refine cut_s (by omega) ?_
    have c0 := cl (some ((pl : Nat) : Int)) (some (((pl : Nat) : Int) + 2))
    refine .inr ⟨_, rfl, by omega, fun y hy hsub => ?_⟩
    have py : Plain y := fun c hc => (hpz.cut (lo := some ((pl : Nat) : Int)) (hi := some (((pl : Nat) : Int) + 2))) c (hsub c hc)
    walk_at "go"
    refine e_cut ?_
    walk_at "go"
    refine o_no (o_part ?_)
    walk_at "go"
    have c1 := cl none (some ((pl : Nat) : Int))
    have c2 := cl (some (((pl : Nat) : Int) + 2)) none
    refine cut_s (by omega) ?_
    walk_at "go"
    refine b_addS (by omega) ?_
    walk_at "go"
    refine e_cut ?_
    walk_at "go"
    refine o_part ?_
    walk_at "go"
    refine cut_s (by omega) ?_
    refine b_addS (by rw [Str.length_append]; omega) ?_
    refine hq _ ?_ ((hpz.cut.app py).app hpz.cut) _ x
    rw [Str.length_append, Str.length_append]
    omega
  refine x_df (decide_eq_false (by omega)) ?_
  walk_at "go"
  have sm := split_meas (z := z) tl_nl nl_low
  have hne := split_ne (z := z) tl_nl nl_low
  have hpr := plain_split tl_nl nl_low hpz
  refine x_bm .split (by decide) ty_s ?_
  walk_at "go"
  refine m_split len1'.1 (by omega) x fun p H1 x1 => ?_
  obtain ⟨rows, er⟩ : ∃ rows, Txt.split z "\n" = rows := ⟨_, rfl⟩
  rw [er] at sm hne hpr x1
  have hrl : rows.length ≤ 100001 := by have := meas_len rows; omega
  have hr0 : 0 < rows.length := List.length_pos_iff.mpr hne
  walk_at "go"
  refine e_call N1.mg N1.kp ?_
  walk_at "go"
  refine i_len (len_l (sq_l (SL.get (.head _) x1))) ?_
  walk_at "go"
  rw [List.length_map]
  refine x_sp N1.ok ⟨a, _, pt p (.lst (rows.map V.str)) :: l, rfl, by omega, log_ok (by omega) (by omega), x1.swap, fun H2 i i0 i1 x2 => ?_⟩
  obtain ⟨q, rfl⟩ : ∃ q : Nat, i = (q : Int) := ⟨i.toNat, by omega⟩
  have hqr : q < rows.length := by omega
  have x2 := x2.swap
  clear x1 x
  walk_at "go"
  have mt := meas_take rows q
  have hdrop : rows.drop q = rows[q] :: rows.drop (q + 1) := List.drop_eq_getElem_cons hqr
  have md : meas (rows.drop q) = rows[q].length + 1 + meas (rows.drop (q + 1)) := by rw [hdrop, meas_cons]
  have q1 : (((q : Nat) : Int) + 1) = ((q + 1 : Nat) : Int) := by omega
  by_cases h6 : j < 6
  · refine x_dt (decide_eq_true (by omega)) ?_
    walk_at "go"
    refine x_bm .join (by decide) ty_s ?_
    walk_at "go"
    refine e_cut ?_
    walk_at "go"
    refine o_no (o_part ?_)
    walk_at "go"
    refine cut_l (sq_l (SL.get (.head _) x2)) fun pa hpa => ?_
    rw [cutV_to, ← List.map_take]
    have xa := x2.new (.lst ((rows.take q).map V.str)) hpa
    generalize upd H2 pa (.lst ((rows.take q).map V.str)) = Ha at xa ⊢
    walk_at "go"
    refine e_cut ?_
    walk_at "go"
    refine o_part ?_
    walk_at "go"
    refine o_part ?_
    walk_at "go"
    refine cut_l (sq_l (SL.get (.tail _ (.head _)) xa)) fun pb hpb => ?_
    rw [q1, cutV_mid, ← List.map_drop, hdrop, List.map_cons, List.take_succ_cons, List.take_zero]
    have xb := xa.new (.lst [V.str rows[q]]) hpb
    generalize upd Ha pb (.lst [V.str rows[q]]) = Hb at xb ⊢
    walk_at "go"
    rename_i pc Hc xc
    obtain ⟨m, hm2, hm⟩ : ∃ m : Nat, m ≤ 2 ∧ ([.int 0, .int 2] : List V)[j - 4]? = some (.int (m : Nat)) := by
      have : j - 4 = 0 ∨ j - 4 = 1 := by omega
      rcases this with e | e <;> rw [e]
      · exact ⟨0, by decide, rfl⟩
      · exact ⟨2, by decide, rfl⟩
    rw [show ((j : Nat) : Int) - 4 = ((j - 4 : Nat) : Int) by omega]
    refine s_lst (sq_l (SL.get (.head _) xc)) hm ?_
    walk_at "go"
    refine b_repL (SL.get (.tail _ (.head _)) xc) hm2 (by show 1 * 2 ≤ sizeLine; omega) (n_o xc fun pd Hd xd => ?_)
    rw [show ([V.str rows[q]] : List V) = [rows[q]].map V.str from rfl, flat_rep] at xd
    obtain ⟨mid, emid⟩ : ∃ mid, (List.replicate m [rows[q]]).flatten = mid := ⟨_, rfl⟩
    have hmm : meas mid ≤ 2 * (rows[q].length + 1) := by
      rw [← emid]
      have := meas_rep hm2 [rows[q]]
      rw [meas_cons] at this
      simpa [meas] using this
    have hmp : PlainL mid := by
      rw [← emid]
      exact plain_rep fun y hy => by
        rw [List.mem_singleton.mp hy]
        exact hpr _ (List.getElem_mem hqr)
    rw [emid] at xd
    have hml := meas_len mid
    walk_at "go"
    refine b_cat (SL.get (.tail _ (.tail _ (.tail _ (.head _)))) xd) (SL.get (.head _) xd) (by simp only [List.length_map, List.length_take]; omega) (n_o xd fun pe He xe => ?_)
    walk_at "go"
    refine e_cut ?_
    walk_at "go"
    refine o_part ?_
    walk_at "go"
    refine cut_l (sq_l (SL.get (.tail _ (.tail _ (.tail _ (.tail _ (.tail _ (.head _)))))) xe)) fun pf hpf => ?_
    rw [q1, cutV_from, ← List.map_drop]
    have xf := xe.new (.lst ((rows.drop (q + 1)).map V.str)) hpf
    generalize upd He pf (.lst ((rows.drop (q + 1)).map V.str)) = Hf at xf ⊢
    refine b_cat (SL.get (.tail _ (.head _)) xf) (SL.get (.head _) xf) (by simp only [List.length_map, List.length_take, List.length_drop, List.length_append]; omega) (n_o xf fun pg Hg xg => ?_)
    rw [← List.map_append, ← List.map_append] at xg
    have hall : meas ((rows.take q ++ mid) ++ rows.drop (q + 1)) ≤ 2 * z.length + 2 := by
      rw [meas_append, meas_append]
      omega
    walk_at "go"
    refine m_joinL tl_nl (sq_l (SL.get (.head _) xg)) (by omega) ?_
    have hj := join_meas tl_nl ((rows.take q ++ mid) ++ rows.drop (q + 1))
    have pj := plain_join (y := "\n") (plain_b (by decide +kernel)) (((hpr.take q).app hmp).app (hpr.drop (q + 1)))
    have xz : SL (BoxA a :: l) Hg := SL.drop (.tl .hd) (xg.tail.tail.tail.tail.tail.tail.tail.swap)
    exact hq _ (by omega) pj _ xz
  refine x_df (decide_eq_false (by omega)) ?_
  walk_at "go"
  refine s_lst (sq_l (SL.get (.head _) x2)) (v := .str rows[q]) (by rw [List.getElem?_map, List.getElem?_eq_getElem hqr]; rfl) ?_
  obtain ⟨row, erow⟩ : ∃ row, rows[q] = row := ⟨_, rfl⟩
  have hprow : Plain row := erow ▸ hpr _ (List.getElem_mem hqr)
  rw [erow] at md ⊢
  have sm2 := split_meas (z := row) tl_sp sp_low
  have hne2 := split_ne (z := row) tl_sp sp_low
  have hpw := plain_split tl_sp sp_low hprow
  refine x_bm .split (by decide) ty_s ?_
  walk_at "go"
  refine m_split len1'.2 (by omega) x2 fun p3 H3 x3 => ?_
  obtain ⟨ws, ew⟩ : ∃ ws, Txt.split row " " = ws := ⟨_, rfl⟩
  rw [ew] at sm2 hne2 hpw x3
  have hwl : ws.length ≤ 100001 := by have := meas_len ws; omega
  have hw0 : 0 < ws.length := List.length_pos_iff.mpr hne2
  clear x2
  walk_at "go"
  refine e_call N1.mg N1.kp ?_
  walk_at "go"
  refine i_len (len_l (sq_l (SL.get (.head _) x3))) ?_
  walk_at "go"
  rw [List.length_map]
  refine x_sp N1.ok ⟨a, _, pt p3 (.lst (ws.map V.str)) :: pt p (.lst (rows.map V.str)) :: l, rfl, by omega, log_ok (by omega) (by omega), x3.swap3, fun H4 i i0 i1 x4 => ?_⟩
  obtain ⟨t, rfl⟩ : ∃ t : Nat, i = (t : Int) := ⟨i.toNat, by omega⟩
  have htw : t < ws.length := by omega
  clear x3
  walk_at "go"
  rename_i p5 H5 x5
  have x5 : SL (pt p5 (.lst (oddW.map V.str)) :: BoxA a :: pt p3 (.lst (ws.map V.str)) :: pt p (.lst (rows.map V.str)) :: l) H5 := x5
  clear x4
  have wmt := meas_take ws t
  have wdrop : ws.drop t = ws[t] :: ws.drop (t + 1) := List.drop_eq_getElem_cons htw
  have wmd : meas (ws.drop t) = ws[t].length + 1 + meas (ws.drop (t + 1)) := by rw [wdrop, meas_cons]
  have t1 : (((t : Nat) : Int) + 1) = ((t + 1 : Nat) : Int) := by omega
  refine e_cut ?_
  walk_at "go"
  refine o_no (o_part ?_)
  walk_at "go"
  refine cut_l (sq_l (SL.get (.tail _ (.tail _ (.head _))) x5)) fun pa hpa => ?_
  rw [cutV_to, ← List.map_take]
  have xa := x5.new (.lst ((ws.take t).map V.str)) hpa
  generalize upd H5 pa (.lst ((ws.take t).map V.str)) = Ha at xa ⊢
  walk_at "go"
  rename_i pb Hb xb
  refine s_lst (sq_l (SL.get (.tail _ (.tail _ (.tail _ (.tail _ (.head _))))) xb)) (v := .str ws[t]) (by rw [List.getElem?_map, List.getElem?_eq_getElem htw]; rfl) ?_
  walk_at "go"
  rename_i pc Hc xc
  refine b_repL (n := 2) (SL.get (.head _) xc) (by decide) (by show 1 * 2 ≤ sizeLine; omega) (n_o xc fun pd Hd xd => ?_)
  have xd : SL (pt pd (.lst (([ws[t], ws[t]] : List Str).map V.str)) :: pt pc (.lst [V.str ws[t]]) :: pt pb (.lst []) :: pt pa (.lst ((ws.take t).map V.str)) :: pt p5 (.lst (oddW.map V.str)) :: BoxA a :: pt p3 (.lst (ws.map V.str)) :: pt p (.lst (rows.map V.str)) :: l) Hd := xd
  walk_at "go"
  refine e_call N1.mg N1.kp ?_
  walk_at "go"
  refine x_sp N1.ok ⟨a, _, pt pd (.lst (([ws[t], ws[t]] : List Str).map V.str)) :: pt pc (.lst [V.str ws[t]]) :: pt pb (.lst []) :: pt pa (.lst ((ws.take t).map V.str)) :: pt p5 (.lst (oddW.map V.str)) :: pt p3 (.lst (ws.map V.str)) :: pt p (.lst (rows.map V.str)) :: l, rfl, by decide, by decide, xd.perm (by
    refine List.Perm.symm ?_
    refine (List.perm_middle (l₁ := [_, _, _, _, _]) (l₂ := _ :: _ :: l)).symm), fun H6 i i0 i1 x6 => ?_⟩
  obtain ⟨o, rfl⟩ : ∃ o : Nat, i = (o : Int) := ⟨i.toNat, by omega⟩
  have ho : o < oddW.length := by rw [oddW_len]; omega
  refine s_lst (sq_l (SL.get (.tail _ (.tail _ (.tail _ (.tail _ (.tail _ (.head _)))))) x6)) (v := .str oddW[o]) (by rw [List.getElem?_map, List.getElem?_eq_getElem ho]; rfl) ?_
  obtain ⟨ol, op⟩ := oddW_ok oddW[o] (List.getElem_mem ho)
  walk_at "go"
  rename_i pe He xe pf Hf xf
  rw [show ((j : Nat) : Int) - 6 = ((j - 6 : Nat) : Int) by omega]
  obtain ⟨ps, mid, hsel, hps, hmm, hmp, hml⟩ : ∃ (ps : Addr) (mid : List Str), ([.ref pb, .ref pd, .ref pe] : List V)[j - 6]? = some (.ref ps) ∧ Hf ps = some (.lst (mid.map V.str)) ∧ meas mid ≤ 2 * (ws[t].length + 1) + 6 ∧ PlainL mid ∧ mid.length ≤ 2 := by
    have : j - 6 = 0 ∨ j - 6 = 1 ∨ j - 6 = 2 := by omega
    rcases this with e | e | e <;> rw [e]
    · exact ⟨pb, [], rfl, SL.get (by walk_at "mem") xf, Nat.zero_le _, (fun _ h => by cases h), by decide⟩
    · refine ⟨pd, [ws[t], ws[t]], rfl, SL.get (by walk_at "mem") xf, by simp only [meas_cons]; simp only [meas, List.map_nil, List.sum_nil]; omega, fun y hy => ?_, (show (2 : Nat) ≤ 2 by decide)⟩
      simp only [List.mem_cons, List.not_mem_nil, or_false, or_self] at hy
      rw [hy]
      exact hpw _ (List.getElem_mem htw)
    · refine ⟨pe, [oddW[o]], rfl, SL.get (.tail _ (.head _)) xf, by simp only [meas_cons]; simp only [meas, List.map_nil, List.sum_nil]; omega, fun y hy => ?_, (show (1 : Nat) ≤ 2 by decide)⟩
      rw [List.mem_singleton.mp hy]
      exact plain_b op
  refine s_lst (sq_l (SL.get (.head _) xf)) hsel ?_
  refine b_cat (SL.get (by walk_at "mem") xf) hps (by simp only [List.length_map, List.length_take]; omega) (n_o xf fun pg Hg xg => ?_)
  walk_at "go"
  refine e_cut ?_
  walk_at "go"
  refine o_part ?_
  walk_at "go"
  refine cut_l (xs := ws.map V.str) (sq_l (SL.get (by walk_at "mem") xg)) fun ph hph => ?_
  rw [t1, cutV_from, ← List.map_drop]
  have xh := xg.new (.lst ((ws.drop (t + 1)).map V.str)) hph
  generalize upd Hg ph (.lst ((ws.drop (t + 1)).map V.str)) = Hh at xh ⊢
  refine b_cat (SL.get (.tail _ (.head _)) xh) (SL.get (.head _) xh) (by simp only [List.length_map, List.length_take, List.length_drop, List.length_append]; omega) (n_o xh fun pi Hi xi => ?_)
  rw [← List.map_append, ← List.map_append] at xi
  obtain ⟨nw, enw⟩ : ∃ nw, (ws.take t ++ mid) ++ ws.drop (t + 1) = nw := ⟨_, rfl⟩
  have hnw : meas nw ≤ 2 * (row.length + 1) + 6 := by
    rw [← enw, meas_append, meas_append]
    omega
  have pnw : PlainL nw := by
    rw [← enw]
    exact ((hpw.take t).app hmp).app (hpw.drop (t + 1))
  rw [enw] at xi
  have xi : SL (pt pi (.lst (nw.map V.str)) :: BoxA a :: pt p (.lst (rows.map V.str)) :: l) Hi := by
    have y1 := SL.drop (.tl .hd) (SL.drop (.tl .hd) (SL.drop (.tl .hd) (SL.drop (.tl .hd) xi)))
    have y2 := SL.drop (.tl (.tl .hd)) (SL.drop (.tl (.tl .hd)) (SL.drop (.tl (.tl .hd)) y1))
    exact SL.drop (.tl (.tl .hd)) (SL.drop (.tl (.tl .hd)) (SL.drop (.tl (.tl .hd)) y2))
  clear xh xg xf xe x6 xd xc xb xa x5
  walk_at "go"
  refine x_bm .join (by decide) ty_s ?_
  walk_at "go"
  refine e_cut ?_
  walk_at "go"
  refine o_no (o_part ?_)
  walk_at "go"
  refine cut_l (xs := rows.map V.str) (sq_l (SL.get (by walk_at "mem") xi)) fun ra hra => ?_
  rw [cutV_to, ← List.map_take]
  have ya := xi.new (.lst ((rows.take q).map V.str)) hra
  generalize upd Hi ra (.lst ((rows.take q).map V.str)) = Ja at ya ⊢
  walk_at "go"
  refine x_bm .join (by decide) ty_s ?_
  walk_at "go"
  refine m_joinL tl_sp (sq_l (SL.get (.tail _ (.head _)) ya)) (by omega) ?_
  have hj1 := join_meas tl_sp nw
  have pj1 := plain_join (y := " ") (plain_b (by decide +kernel)) pnw
  obtain ⟨jn, ejn⟩ : ∃ jn, Txt.join " " nw = jn := ⟨_, rfl⟩
  rw [ejn] at hj1 pj1 ⊢
  walk_at "go"
  rename_i rb Jb yb
  have yb : SL (pt rb (.lst (([jn] : List Str).map V.str)) :: pt ra (.lst ((rows.take q).map V.str)) :: pt pi (.lst (nw.map V.str)) :: BoxA a :: pt p (.lst (rows.map V.str)) :: l) Jb := yb
  refine b_cat (SL.get (.tail _ (.head _)) yb) (SL.get (.head _) yb) (by simp only [List.length_map, List.length_take, List.length_cons, List.length_nil]; omega) (n_o yb fun rc Jc yc => ?_)
  walk_at "go"
  refine e_cut ?_
  walk_at "go"
  refine o_part ?_
  walk_at "go"
  refine cut_l (xs := rows.map V.str) (sq_l (SL.get (by walk_at "mem") yc)) fun rd hrd => ?_
  rw [q1, cutV_from, ← List.map_drop]
  have yd := yc.new (.lst ((rows.drop (q + 1)).map V.str)) hrd
  generalize upd Jc rd (.lst ((rows.drop (q + 1)).map V.str)) = Jd at yd ⊢
  refine b_cat (SL.get (.tail _ (.head _)) yd) (SL.get (.head _) yd) (by simp only [List.length_map, List.length_take, List.length_drop, List.length_append, List.length_cons, List.length_nil]; omega) (n_o yd fun re Je ye => ?_)
  rw [← List.map_append, ← List.map_append] at ye
  obtain ⟨fin, efin⟩ : ∃ fin, (rows.take q ++ [jn]) ++ rows.drop (q + 1) = fin := ⟨_, rfl⟩
  have hfin : meas fin ≤ 3 * z.length + 30 := by
    rw [← efin, meas_append, meas_append, meas_cons]
    simp only [meas, List.map_nil, List.sum_nil] at *
    omega
  have pfin : PlainL fin := by
    rw [← efin]
    exact ((hpr.take q).app (fun y hy => by rw [List.mem_singleton.mp hy]; exact pj1)).app (hpr.drop (q + 1))
  rw [efin] at ye
  walk_at "go"
  refine m_joinL tl_nl (sq_l (SL.get (.head _) ye)) (by omega) ?_
  have hj2 := join_meas tl_nl fin
  have pj2 := plain_join (y := "\n") (plain_b (by decide +kernel)) pfin
  have yz : SL (BoxA a :: l) Je := SL.drop (.tl .hd) (ye.tail.tail.tail.tail.tail.tail)
  exact hq _ (by omega) pj2 _ yz
theorem w_spoilt {R : Rx} {k : Nat} {f : Addr} {vs : List V} {H : Hp} {Q : VK} {X : XK} (N1 : Has R.toRt k "_law_take" f spTake) (h : spSpoilt vs H Q X) : wSs R k b_spoilt (fun cls d _ H' => X cls d H') { nx := fun _ H' => Q .non H', rt := Q } (L2.start N_spoilt vs) H := by
  obtain ⟨a, z, l, rfl, hz, hpz, x, hq⟩ := h
  have sz : (1000100 : Nat) < sizeLine := by rw [sizeLine_eq]; decide
  show wSs R k b_spoilt _ _ [some (.ref a), some (.str z), none, none, none, none, none, none, none, none, none, none] H
  unfold b_spoilt
  walk_at "go"
  refine e_call N1.mg N1.kp ?_
  walk_at "go"
  refine x_sp N1.ok ⟨a, 9, l, rfl, by decide, by decide, x, fun H1 i i0 i1 x1 => ?_⟩
  obtain ⟨j, rfl⟩ : ∃ j : Nat, i = (j : Int) := ⟨i.toNat, by omega⟩
  clear x
  walk_at "go"
  refine e_call N1.mg N1.kp ?_
  walk_at "go"
  refine i_len (len_s (by omega)) ?_
  walk_at "go"
  refine x_sp N1.ok ⟨a, _, l, rfl, by omega, log_ok (by omega) (by omega), x1, fun H2 i p0 p1 x2 => ?_⟩
  obtain ⟨pl, rfl⟩ : ∃ pl : Nat, i = (pl : Int) := ⟨i.toNat, by omega⟩
  clear x1
  walk_at "go"
  refine e_call N1.mg N1.kp ?_
  walk_at "go"
  rename_i pt1 H3 x3
  refine e_call N1.mg N1.kp ?_
  walk_at "go"
  refine x_sp N1.ok ⟨a, 2, pt pt1 (.lst [.int 14, .int 92]) :: l, rfl, by decide, by decide, x3.swap, fun H4 i o0 o1 x4 => ?_⟩
  obtain ⟨o, rfl⟩ : ∃ o : Nat, i = (o : Int) := ⟨i.toNat, by omega⟩
  clear x2 x3
  obtain ⟨m, hm, hm0, hm1⟩ : ∃ m : Int, ([.int 14, .int 92] : List V)[o]? = some (.int m) ∧ 0 < m ∧ m ≤ 92 := by
    have : o = 0 ∨ o = 1 := by omega
    rcases this with e | e <;> rw [e]
    · exact ⟨14, rfl, by decide, by decide⟩
    · exact ⟨92, rfl, by decide, by decide⟩
  refine s_lst (sq_l (SL.get (.tail _ (.head _)) x4)) hm ?_
  walk_at "go"
  refine x_sp N1.ok ⟨a, m, pt pt1 (.lst [.int 14, .int 92]) :: l, rfl, hm0, log_ok hm0 (by omega), x4, fun H5 i c0 c1 x5 => ?_⟩
  obtain ⟨c, rfl⟩ : ∃ c : Nat, i = (c : Int) := ⟨i.toNat, by omega⟩
  clear x4
  obtain ⟨el, ep⟩ := every_len
  have hc : c < (TL.tl everyS).length := by rw [← TL.len_tl, el]; omega
  refine s_strN (z := everyS) (by omega) (List.getElem?_eq_getElem hc) ?_
  have ps : Plain ⟨#[(TL.tl everyS)[c]]⟩ := fun y hy => by
    have hy : y ∈ [(TL.tl everyS)[c]] := hy
    rw [List.mem_singleton.mp hy]
    exact plain_b ep _ (List.getElem_mem hc)
  have y5 : SL (BoxA a :: l) H5 := SL.drop (.tl .hd) x5
  walk_at "go"
  by_cases h1 : j = 1
  · refine x_dt (decide_eq_true (by rw [h1]; rfl)) ?_
    walk_at "go"
    exact w_spT (sg := "") (ev := .str everyS) N1 hz hpz (by omega) (by omega) (by decide +kernel) (plain_b (by decide +kernel)) y5 hq
  · refine x_df (decide_eq_false (by omega)) ?_
    walk_at "go"
    exact w_spT (sg := ⟨#[(TL.tl everyS)[c]]⟩) (ev := .str everyS) N1 hz hpz (by omega) (by omega) (Nat.le_refl 1) ps y5 hq
end Zw
set_option Elab.async false
set_option linter.all false
set_option maxRecDepth 100000
set_option maxHeartbeats 4000000
namespace Zw
open PySem PySem.Spec PyProof.Rows L2
local macro_rules | `(tactic| walk_at "mem") => `(tactic| (first | exact List.Mem.head _ | (apply List.Mem.tail; walk_at "mem")))
local macro_rules | `(tactic| walk_at "rp") => `(tactic| (first | exact Rp.hd | (apply Rp.tl; walk_at "rp")))
local macro_rules | `(tactic| walk_at "pk") => `(tactic| (first | exact Pk.hd | (apply Pk.tl; walk_at "pk")))
local macro_rules | `(tactic| walk_at "go1") => `(tactic| with_reducible (first
  | refine q_set ?_ | refine q_exp ?_ | refine q_doc ?_ | refine q_pass ?_ | refine q_ret ?_ | refine q_retN ?_ | refine q_brk ?_ | refine q_cont ?_ | refine q_if ?_ | refine q_par ?_ | refine q_setFld ?_ | refine q_setSub ?_ | refine q_for ?_
  | refine e_int ?_ | refine e_str ?_ | refine e_bl ?_ | refine e_non ?_ | refine e_bin ?_ | refine e_neg ?_ | refine e_nt ?_ | refine e_cmp ?_ | refine e_chain ?_ | refine e_and ?_ | refine e_or ?_ | refine e_ife ?_ | refine e_fld ?_ | refine e_sub ?_ | refine e_tup ?_ | refine e_lst ?_ | refine e_bi ?_ | refine e_meth ?_
  | refine es_nil ?_ | refine es_cons ?_ | refine t_yes ?_ | refine t_nt ?_ | refine t_and ?_ | refine t_or ?_ | refine t_cmp ?_ | refine t_val ?_ | refine i_seq ?_ | refine i_rng ?_
  | refine x_bl ?_ | refine x_in ?_ | refine tr_bl ?_ | refine tr_int ?_ | refine tr_non ?_
  | refine b_add ?_ | refine b_sub ?_ | refine c_lt ?_ | refine c_le ?_ | refine c_gt ?_ | refine c_ge ?_ | refine c_is ?_ | refine c_isnt ?_ | refine i_intB ?_ | refine c_eqI ?_ | refine c_neI ?_ | refine c_eqB ?_ | refine c_neB ?_ | refine c_eqS ?_ | refine q_nil ?_ | refine x_itt ?_ | refine x_iff ?_))
local macro_rules | `(tactic| walk_at "go2") => `(tactic| (first
  | ((with_reducible refine' e_var ?hg ?hh); (case hg => rfl))
  | ((with_reducible refine' s_0 ?hx ?hm ?hg ?hh); (case hx => assumption); (case hm => walk_at "mem"); (case hg => rfl))
  | ((with_reducible refine' s_1 ?hx ?hm ?hg ?hh); (case hx => assumption); (case hm => walk_at "mem"); (case hg => rfl))
  | ((with_reducible refine' s_2 ?hx ?hm ?hg ?hh); (case hx => assumption); (case hm => walk_at "mem"); (case hg => rfl))
  | ((with_reducible refine' p_0 ?hx ?hr ?hb ?hh); (case hx => assumption); (case hr => walk_at "rp"); (case hb => first | (simp; done) | decide); intros)
  | ((with_reducible refine' p_1 ?hx ?hr ?hb ?hh); (case hx => assumption); (case hr => walk_at "rp"); (case hb => first | (simp; done) | decide); intros)
  | ((with_reducible refine' n_lst ?hx ?hb ?hh); (case hx => assumption); (case hb => first | decide | (simp only [List.length_cons, List.length_nil]; decide)); intros)
  | ((with_reducible refine' n_tup ?hx ?hb ?hh); (case hx => assumption); (case hb => first | decide | (simp only [List.length_cons, List.length_nil]; decide)); intros)))
local macro_rules | `(tactic| walk_at "go") => `(tactic| repeat (first | walk_at "go1" | walk_at "go2"))
local macro_rules | `(tactic| walk_at "go2") => `(tactic| (first
  | ((with_reducible refine' e_ty ?hg ?hh); (case hg => rfl))
  | ((with_reducible refine' isi_dp ok_bl ?hx ?hh); (case hx => assumption))
  | ((with_reducible refine' isi_dp ok_int ?hx ?hh); (case hx => assumption))
  | ((with_reducible refine' isi_dp ok_str ?hx ?hh); (case hx => assumption))
  | ((with_reducible refine' isi_dp ok_tup ?hx ?hh); (case hx => assumption))
  | ((with_reducible refine' isi_dp ok_lst ?hx ?hh); (case hx => assumption))
  | ((with_reducible refine' x_dt ?hc ?hh); (case hc => rfl))
  | ((with_reducible refine' x_df ?hc ?hh); (case hc => rfl))))
end Zw
set_option Elab.async false
set_option linter.all false
set_option maxRecDepth 100000
set_option maxHeartbeats 4000000
namespace Zw
open PySem PySem.Spec PyProof.Rows L2
local macro_rules | `(tactic| walk_at "mem") => `(tactic| (first | exact List.Mem.head _ | (apply List.Mem.tail; walk_at "mem")))
local macro_rules | `(tactic| walk_at "rp") => `(tactic| (first | exact Rp.hd | (apply Rp.tl; walk_at "rp")))
local macro_rules | `(tactic| walk_at "pk") => `(tactic| (first | exact Pk.hd | (apply Pk.tl; walk_at "pk")))
local macro_rules | `(tactic| walk_at "go1") => `(tactic| with_reducible (first
  | refine q_set ?_ | refine q_exp ?_ | refine q_doc ?_ | refine q_pass ?_ | refine q_ret ?_ | refine q_retN ?_ | refine q_brk ?_ | refine q_cont ?_ | refine q_if ?_ | refine q_par ?_ | refine q_setFld ?_ | refine q_setSub ?_ | refine q_for ?_
  | refine e_int ?_ | refine e_str ?_ | refine e_bl ?_ | refine e_non ?_ | refine e_bin ?_ | refine e_neg ?_ | refine e_nt ?_ | refine e_cmp ?_ | refine e_chain ?_ | refine e_and ?_ | refine e_or ?_ | refine e_ife ?_ | refine e_fld ?_ | refine e_sub ?_ | refine e_tup ?_ | refine e_lst ?_ | refine e_bi ?_ | refine e_meth ?_
  | refine es_nil ?_ | refine es_cons ?_ | refine t_yes ?_ | refine t_nt ?_ | refine t_and ?_ | refine t_or ?_ | refine t_cmp ?_ | refine t_val ?_ | refine i_seq ?_ | refine i_rng ?_
  | refine x_bl ?_ | refine x_in ?_ | refine tr_bl ?_ | refine tr_int ?_ | refine tr_non ?_
  | refine b_add ?_ | refine b_sub ?_ | refine c_lt ?_ | refine c_le ?_ | refine c_gt ?_ | refine c_ge ?_ | refine c_is ?_ | refine c_isnt ?_ | refine i_intB ?_ | refine c_eqI ?_ | refine c_neI ?_ | refine c_eqB ?_ | refine c_neB ?_ | refine c_eqS ?_ | refine q_nil ?_ | refine x_itt ?_ | refine x_iff ?_))
local macro_rules | `(tactic| walk_at "go2") => `(tactic| (first
  | ((with_reducible refine' e_var ?hg ?hh); (case hg => rfl))
  | ((with_reducible refine' s_0 ?hx ?hm ?hg ?hh); (case hx => assumption); (case hm => walk_at "mem"); (case hg => rfl))
  | ((with_reducible refine' s_1 ?hx ?hm ?hg ?hh); (case hx => assumption); (case hm => walk_at "mem"); (case hg => rfl))
  | ((with_reducible refine' s_2 ?hx ?hm ?hg ?hh); (case hx => assumption); (case hm => walk_at "mem"); (case hg => rfl))
  | ((with_reducible refine' p_0 ?hx ?hr ?hb ?hh); (case hx => assumption); (case hr => walk_at "rp"); (case hb => first | (simp; done) | decide); intros)
  | ((with_reducible refine' p_1 ?hx ?hr ?hb ?hh); (case hx => assumption); (case hr => walk_at "rp"); (case hb => first | (simp; done) | decide); intros)
  | ((with_reducible refine' n_lst ?hx ?hb ?hh); (case hx => assumption); (case hb => first | decide | (simp only [List.length_cons, List.length_nil]; decide)); intros)
  | ((with_reducible refine' n_tup ?hx ?hb ?hh); (case hx => assumption); (case hb => first | decide | (simp only [List.length_cons, List.length_nil]; decide)); intros)))
local macro_rules | `(tactic| walk_at "go") => `(tactic| repeat (first | walk_at "go1" | walk_at "go2"))
local macro_rules | `(tactic| walk_at "go2") => `(tactic| (first
  | ((with_reducible refine' e_ty ?hg ?hh); (case hg => rfl))
  | ((with_reducible refine' isi_dp ok_bl ?hx ?hh); (case hx => assumption))
  | ((with_reducible refine' isi_dp ok_int ?hx ?hh); (case hx => assumption))
  | ((with_reducible refine' isi_dp ok_str ?hx ?hh); (case hx => assumption))
  | ((with_reducible refine' isi_dp ok_tup ?hx ?hh); (case hx => assumption))
  | ((with_reducible refine' isi_dp ok_lst ?hx ?hh); (case hx => assumption))
  | ((with_reducible refine' x_dt ?hc ?hh); (case hc => rfl))
  | ((with_reducible refine' x_df ?hc ?hh); (case hc => rfl))))
section
variable {α β : Type _}
/-- the things at xs are as ys tells, each by itself -/
def All2 (A : α → β → HP) (xs : List α) (ys : List β) : HP := fun h => xs.length = ys.length ∧ SL (List.zipWith A xs ys) h
variable {A : α → β → HP} {xs : List α} {ys : List β} {l : List HP} {H : Hp} {j : Nat}
theorem All2.len (x : SL (All2 A xs ys :: l) H) : xs.length = ys.length := by
  obtain ⟨h, g, a, b, d, y, z⟩ := x
  exact y.1
theorem All2.nil {l : List HP} {H : Hp} (x : SL l H) : SL (All2 A [] [] :: l) H := ⟨fun _ => none, H, (fun _ _ e => by cases e), Sub.refl _, (fun _ _ _ e => by cases e), ⟨rfl, trivial⟩, x⟩
end
/-- the part of a heap that never changes -/
def fx (H : Hp) : Hp := fun a => match H a with | some o => if fixO o = true then some o else none | none => none
theorem fx_sub (H : Hp) : Sub (fx H) H := fun a o e => by
  unfold fx at e
  split at e
  · split at e
    · cases e; assumption
    · cases e
  · cases e
theorem fx_fix {H : Hp} {a : Addr} {o : HO} (e : fx H a = some o) : fixO o = true := by
  unfold fx at e
  split at e
  · split at e
    · cases e; assumption
    · cases e
  · cases e
theorem fx_at {H : Hp} {a : Addr} {o : HO} (e : H a = some o) (f : fixO o = true) : fx H a = some o := by
  unfold fx
  rw [e]
  simp [f]
open Classical in
noncomputable def lamH (T : List (Addr × Str)) (H : Hp) : Hp := fun a => if ∃ p ∈ T, p.1 = a then H a else fx H a
theorem lamH_in {T : List (Addr × Str)} {H : Hp} {a : Addr} (h : ∃ p ∈ T, p.1 = a) : lamH T H a = H a := by unfold lamH; rw [if_pos h]
theorem lamH_out {T : List (Addr × Str)} {H : Hp} {a : Addr} (h : ¬ ∃ p ∈ T, p.1 = a) : lamH T H a = fx H a := by unfold lamH; rw [if_neg h]
theorem SL.lam {T : List (Addr × Str)} {l : List HP} {H H1 : Hp} (x : SL (tabsOk T :: l) H) (k : KeepT T H H1) (t : tabsOk T H1) : SL (tabsOk T :: l) H1 := by
  obtain ⟨h, g, s1, s2, d, th, y⟩ := x
  have gn : ∀ p ∈ T, g p.1 = none := fun p hp => by
    obtain ⟨ps, e, _⟩ := th p hp
    cases q : g p.1 with
    | none => rfl
    | some u =>
      have := d _ _ _ e q
      cases this
  refine ⟨lamH T H1, g, fun a o e => ?_, fun a o e => k a o (s2 a o e) fun p hp z => ?_, fun a o u e f => ?_, fun p hp => ?_, y⟩
  · by_cases z : ∃ p ∈ T, p.1 = a
    · rw [lamH_in z] at e; exact e
    · rw [lamH_out z] at e; exact fx_sub H1 a o e
  · rw [← z, gn p hp] at e
    cases e
  · by_cases z : ∃ p ∈ T, p.1 = a
    · obtain ⟨p, hp, rfl⟩ := z
      rw [gn p hp] at f
      cases f
    · rw [lamH_out z] at e
      exact fx_fix e
  · obtain ⟨ps, e1, e2, e3⟩ := t p hp
    refine ⟨ps, by rw [lamH_in ⟨p, hp, rfl⟩]; exact e1, e2, fun pos cv hc => ?_⟩
    obtain ⟨c, od, f1, f2⟩ := e3 pos cv hc
    refine ⟨c, od, f1, ?_⟩
    by_cases z : ∃ p ∈ T, p.1 = c
    · rw [lamH_in z]; exact f2
    · rw [lamH_out z]; exact fx_at f2 rfl
theorem less_join {cz H : Hp} (n : ∀ a o, cz a = some o → H a = none) : less cz (join cz H) = H := by
  funext a
  rcases cz_or cz a with ⟨o, q⟩ | q
  · rw [less_cz q, n a o q]
  · rw [less_no q, join_no q]
/-- a def to which lambdas are handed -/
structure HasZ (R : Rt) (k : Nat) (x : Str) (f : Addr) (sp : Sp) : Prop where
  mg : R.mg x = some (.ref f)
  kp : PySem.W.keepIn R.K (.ref f) = true
  ok : CallEnv R k f sp
/-- told(lambda: b) -/
theorem e_told {R : Rx} {k j : Nat} {W : WX} {σ : L2.St} {H : Hp} {Q : VK} {g : Addr} {cls : Str → Addr} {b : E} {l : List HP} (N : HasZ R.toRt k "_law_told" g (spTold R.toRt (j + 1) cls)) (x : SL (tabsOk R.T :: l) H)
    (tm : ∀ h h', Sub h h' → tabsOk R.T h → tabsOk R.T h')
    (hb : ∀ (H1 : Hp) (Qn : VK) (En : XK), SL (tabsOk R.T :: l) H1 → (∀ v H', Q v H' → Qn v H') →
      (∀ w ∈ kindNames, ∀ v dd fs H', H' dd = some (.xd fs) → (w = "BadText" → fs.lookup ("row" : Str) = some v) → (w ≠ "BadText" → v = .int 0) → (∀ p H'', (∀ a o, H' a = some o → H'' a = some o) → H'' p = some (.tup [.str w, v]) → Q (.ref p) H'') → En (.ref (cls w)) (some dd) H') →
      wE R j b (fun c d _ H' => En c d H') σ H1 Qn) : wE R k (.callZ "_law_told" (.cons (.lam b) .nil)) W σ H Q := by
  refine ⟨g, N.mg, N.kp, SL.up tm (.head _) x, fun f fz H1 kt t1 hz _ hM => ⟨_, N.ok, fun cz ck cn hL => ?_⟩⟩
  have x1 := x.lam kt t1
  refine ⟨f, knows cz fz, _, rfl, ⟨fun a o e => join_cz e, fun p hp => ?_⟩, hL f fz _ hM j, fun E hE => ⟨rfl, ?_⟩⟩
  · have e1 := hz p hp
    have e2 : cz p.1 = none := by
      rcases cz_or cz p.1 with ⟨o, q⟩ | q
      · rw [cn _ _ q] at e1; cases e1
      · exact q
    rw [join_no e2]
    exact e1
  · rw [less_join cn]
    refine hb H1 _ (fun c d H' => (∀ a o, cz a = some o → H' a = none) → E c d (join cz H')) x1 (fun v H' q n _ => ?_) fun w mw v dd fs H' hd hv1 hv2 hq n => hE _ _ _ ⟨w, mw, v, rfl, ⟨dd, fs, rfl, ?_, hv1, hv2⟩, fun p H'' up ep kz => ?_⟩
    · rw [less_join n]
      exact q
    · have e2 : cz dd = none := by
        rcases cz_or cz dd with ⟨o, q⟩ | q
        · rw [n _ _ q] at hd; cases hd
        · exact q
      rw [join_no e2]
      exact hd
    · have e2 : cz p = none := by
        rcases cz_or cz p with ⟨o, q⟩ | q
        · obtain ⟨oc, rfl, _⟩ := ck _ _ q
          have := kz _ _ q
          rw [ep] at this
          cases this
        · exact q
      refine hq p (less cz H'') (fun a o e => ?_) (by rw [less_no e2]; exact ep)
      have e3 : cz a = none := by
        rcases cz_or cz a with ⟨o, q⟩ | q
        · rw [n _ _ q] at e; cases e
        · exact q
      rw [less_no e3]
      exact up a o (by rw [join_no e3]; exact e)
def N_law15 : List Str := ["_law_script", "_law_box", "_law_odd", "_law_turn", "_law_rows", "_law_k", "_law_part", "_law_text", "_law_change", "_law_found", "_law_row", "_law_due", "_law_again"]
def b_lawE : Ss := (.cons (.set 11 (.ife (.cmp (.cmp .In .non (.var 9))) (.tup (.cons (.str "BadText") (.cons (.meth (.var 9) "index" [.index] (.cons .non .nil)) .nil))) (.var 9)))
  (.cons (.fors (.nm 12) (.rng1 (.int 2))
  (.cons (.ifs (.nt (.val (.call "_law_alike" (.cons (.callZ "_law_told" (.cons (.lam (.call "read" (.cons (.var 7) .nil))) .nil)) (.cons (.var 11) .nil)))))
  (.cons (.ret (.bl false))
  .nil)
  .nil)
  .nil))
  .nil))
def b_law15 : Ss := (.cons (.set 1 (.call "_law_begun" (.cons (.var 0) .nil)))
  (.cons (.set 2 (.lst (.cons (.str "") (.cons (.str " ") (.cons (.str "\n") (.cons (.str "make 1 2") (.cons (.str "step ") (.cons (.str " step") (.cons (.str "read 1") (.cons (.str "again\n") (.cons (.str "\nagain") (.cons (.str "arm -1") (.cons (.str "room 07") (.cons (.str "lose") .nil))))))))))))))
  (.cons (.fors (.nm 3) (.rng1 (.int 6))
  (.cons (.set 4 (.lst .nil))
  (.cons (.fors (.nm 5) (.rng1 (.call "_law_take" (.cons (.var 1) (.cons (.int 8) .nil))))
  (.cons (.exp (.meth (.var 4) "append" [.append] (.cons (.meth (.str " ") "join" [.join] (.cons (.comp (.callB .str (.cons (.var 6) .nil)) (.nm 6) (.seq (.call "_law_anystep" (.cons (.var 1) .nil))) .yes [6]) .nil)) .nil)))
  .nil))
  (.cons (.set 7 (.meth (.str "\n") "join" [.join] (.cons (.var 4) .nil)))
  (.cons (.ifs (.cmp (.cmp .Eq (.call "_law_take" (.cons (.var 1) (.cons (.int 5) .nil))) (.int 0)))
  (.cons (.set 7 (.sub (.var 2) (.call "_law_take" (.cons (.var 1) (.cons (.int 12) .nil)))))
  .nil)
  .nil)
  (.cons (.fors (.nm 8) (.rng1 (.call "_law_take" (.cons (.var 1) (.cons (.int 4) .nil))))
  (.cons (.set 7 (.call "_law_spoilt" (.cons (.var 1) (.cons (.var 7) .nil))))
  .nil))
  (.cons (.set 9 (.ife (.cmp (.cmp .NotEq (.var 7) (.str ""))) (.comp (.call "_law_step" (.cons (.var 10) .nil)) (.nm 10) (.seq (.meth (.var 7) "split" [.split] (.cons (.str "\n") .nil))) .yes [10]) (.lst .nil)))
  b_lawE)))))))
  (.cons (.ret (.bl true))
  .nil))))
theorem tabsX_up {T : List (Addr × Str)} : ∀ h h', Sub h h' → tabsOk T h → tabsOk T h' := fun h h' s t p hp => by
  obtain ⟨ps, h1, h2, h3⟩ := t p hp
  exact ⟨ps, s _ _ h1, h2, fun pos cv e => by
    obtain ⟨c, od, e1, e2⟩ := h3 pos cv e
    exact ⟨c, od, e1, s _ _ e2⟩⟩
/-- xs: the tuples of the steps of O, none where there is none -/
def OA (xs : List V) (O : List (Option Stp)) : HP := fun h => xs.length = O.length ∧ ∀ (i : Nat) (o : Option Stp), O[i]? = some o → (o = none → xs[i]? = some V.non) ∧ ∀ s, o = some s → ∃ a, xs[i]? = some (V.ref a) ∧ h a = some (.tup (stepV s))
theorem OA.up {xs : List V} {O : List (Option Stp)} {h H : Hp} (s : Sub h H) (x : OA xs O h) : OA xs O H := ⟨x.1, fun i o e => ⟨(x.2 i o e).1, fun s' e' => by
  obtain ⟨a, h1, h2⟩ := (x.2 i o e).2 s' e'
  exact ⟨a, h1, s a _ h2⟩⟩⟩
theorem OA.nil {l : List HP} {H : Hp} (x : SL l H) : SL (OA [] [] :: l) H := ⟨fun _ => none, H, (fun _ _ e => by cases e), Sub.refl _, (fun _ _ _ e => by cases e), ⟨rfl, fun i o e => by cases e⟩, x⟩
theorem OA.push {xs : List V} {O : List (Option Stp)} {v : V} {o : Option Stp} {h : Hp} (x : OA xs O h) (h1 : o = none → v = .non) (h2 : ∀ s, o = some s → ∃ a, v = .ref a ∧ h a = some (.tup (stepV s))) : OA (xs ++ [v]) (O ++ [o]) h := by
  refine ⟨by simp [x.1], fun i o' e => ?_⟩
  by_cases hi : i < O.length
  · rw [List.getElem?_append_left hi] at e
    rw [List.getElem?_append_left (by rw [x.1]; exact hi)]
    exact x.2 i o' e
  · have hi' : i = O.length := by
      have := (List.getElem?_eq_some_iff.mp e).1
      simp at this
      omega
    subst hi'
    rw [List.getElem?_append_right (Nat.le_refl _)] at e
    simp at e
    subst e
    rw [List.getElem?_append_right (by rw [x.1]; exact Nat.le_refl _), x.1]
    simp only [Nat.sub_self, List.getElem?_cons_zero]
    exact ⟨fun z => by rw [h1 z], fun s z => by
      obtain ⟨a, e1, e2⟩ := h2 s z
      exact ⟨a, by rw [e1], e2⟩⟩
theorem SL.oNone {xs : List V} {O : List (Option Stp)} {l : List HP} {H : Hp} (x : SL (OA xs O :: l) H) : SL (OA (xs ++ [.non]) (O ++ [none]) :: l) H := x.imp fun h y => y.push (fun _ => rfl) fun s e => by cases e
theorem SL.oSome {xs : List V} {O : List (Option Stp)} {l : List HP} {H : Hp} {q : Addr} {s : Stp} (x : SL (pt q (.tup (stepV s)) :: OA xs O :: l) H) : SL (OA (xs ++ [.ref q]) (O ++ [some s]) :: l) H := by
  refine (SL.unnest (m := [_, _]) x).imp fun h y => ?_
  have e1 : h q = some (.tup (stepV s)) := SL.get (.head _) y
  have e2 : OA xs O h := SL.up (fun _ _ => OA.up) (.tail _ (.head _)) y
  exact e2.push (fun z => by cases z) fun s' e => by
    cases e
    exact ⟨q, rfl, e1⟩
def optD : Option Stp → PyData
  | none => .none
  | some s => stepD s
theorem dp_opt {K : PySem.W.Frag} {H : Hp} : ∀ {O : List (Option Stp)} {xs : List V}, OA xs O H → DpAll K H xs (O.map optD)
  | [], xs, h => by
    have : xs = [] := List.length_eq_zero_iff.mp h.1
    subst this
    exact .nil
  | o :: O, [], h => by cases h.1
  | o :: O, x :: xs, h => by
    have h0 := h.2 0 o rfl
    refine .cons ?_ (dp_opt ⟨by simpa using h.1, fun i o' e => by
      have := h.2 (i + 1) o' (by simpa using e)
      simpa using this⟩)
    cases o with
    | none =>
      have := h0.1 rfl
      simp at this
      subst this
      exact .non
    | some s =>
      obtain ⟨a, h1, h2⟩ := h0.2 s rfl
      simp at h1
      subst h1
      exact .tup (st_t h2) (.cons (.str _) (dp_part _))
def GoodO (O : List (Option Stp)) : Prop := ∀ o ∈ O, ∀ s, o = some s → Good s
theorem lay_step {s : Stp} (g : Good s) : (stepD s).canLay0 = true := by
  have := lay_steps (S := [s]) (fun x hx => by rw [List.mem_singleton.mp hx]; exact g)
  rw [List.map_cons, List.map_nil, PyData.canLayAll0, PyData.canLayAll0, Bool.and_true] at this
  exact this
theorem lay_opt : ∀ {O : List (Option Stp)}, GoodO O → PyData.canLayAll0 (O.map optD) = true
  | [], _ => rfl
  | o :: O, g => by
    rw [List.map_cons, PyData.canLayAll0, lay_opt (O := O) fun o' ho => g o' (List.mem_cons_of_mem _ ho), Bool.and_true]
    cases o with
    | none => rfl
    | some s => exact lay_step (g _ List.mem_cons_self s rfl)
theorem dep_step (s : Stp) : (stepD s).depth ≤ 1 := by
  have := dep_steps [s]
  rw [List.map_cons, List.map_nil, PyData.depthAll] at this
  omega
theorem dep_opt : ∀ O : List (Option Stp), PyData.depthAll (O.map optD) ≤ 1
  | [] => by decide
  | o :: O => by
    have h1 := dep_opt O
    rw [List.map_cons, PyData.depthAll]
    cases o with
    | none =>
      show max (PyData.depth .none) _ ≤ 1
      rw [PyData.depth]
      omega
    | some s =>
      have h2 := dep_step s
      show max (PyData.depth (stepD s)) _ ≤ 1
      omega
theorem shaped_opt {O : List (Option Stp)} (g : GoodO O) : SeqAt.shaped (.list (O.map optD)) = true := by
  unfold SeqAt.shaped
  have h := dep_opt O
  rw [PyData.canLay0, lay_opt g, PyData.depth, decide_eq_true (by omega)]
  rfl
theorem eqv_none (o : Option Stp) : PyData.eqv (optD o) .none = o.isNone := by
  cases o with
  | none => rfl
  | some s => rfl
theorem rowQ_good (rows : List Str) : GoodO (rows.map rowQ) := fun o ho s e => by
  obtain ⟨z, _, rfl⟩ := List.mem_map.mp ho
  exact (rowQ_some.mp e).1
theorem first_none : ∀ {O : List (Option Stp)}, O.any Option.isNone = true → ∃ j : Nat, O[j]? = some none ∧ ∀ (m : Nat) (o : Option Stp), m < j → O[m]? = some o → o ≠ none
  | [], h => by cases h
  | none :: O, _ => ⟨0, rfl, fun m o h => by omega⟩
  | some s :: O, h => by
    have h : O.any Option.isNone = true := h
    obtain ⟨j, h1, h2⟩ := first_none h
    refine ⟨j + 1, by simpa using h1, fun m o hm e => ?_⟩
    cases m with
    | zero =>
      simp at e
      subst e
      exact fun z => by cases z
    | succ m => exact h2 m o (by omega) (by simpa using e)
theorem all_some {O : List (Option Stp)} (h : O.any Option.isNone = false) : ∃ S : List Stp, O = S.map some := by
  induction O with
  | nil => exact ⟨[], rfl⟩
  | cons o O ih =>
    cases o with
    | none => cases h
    | some s =>
      obtain ⟨S, rfl⟩ := ih h
      exact ⟨s :: S, rfl⟩
theorem first_bad {rows : List Str} {j : Nat} : FirstBad rows j ↔ (rows.map rowQ)[j]? = some none ∧ ∀ (m : Nat) (o : Option Stp), m < j → (rows.map rowQ)[m]? = some o → o ≠ none := by
  constructor
  · rintro ⟨z, h1, h2, h3⟩
    refine ⟨by rw [List.getElem?_map, h1]; exact congrArg some h2, fun m o hm e => ?_⟩
    rw [List.getElem?_map] at e
    obtain ⟨z', e1, rfl⟩ := Option.map_eq_some_iff.mp e
    exact h3 m z' hm e1
  · rintro ⟨h1, h2⟩
    rw [List.getElem?_map] at h1
    obtain ⟨z, e1, e2⟩ := Option.map_eq_some_iff.mp h1
    exact ⟨z, e1, e2, fun m z' hm e => h2 m _ hm (by rw [List.getElem?_map, e]; rfl)⟩
theorem sz_opt : ∀ {O : List (Option Stp)}, GoodO O → szAll (O.map optD) = true
  | [], _ => rfl
  | o :: O, g => by
    have ih := sz_opt (O := O) fun o' ho => g o' (List.mem_cons_of_mem _ ho)
    cases o with
    | none =>
      show (szB .none && szAll (O.map optD)) = true
      rw [ih]
      rfl
    | some s =>
      have := sz_steps (S := [s]) fun x hx => by rw [List.mem_singleton.mp hx]; exact g _ List.mem_cons_self s rfl
      rw [List.map_cons, List.map_nil, szAll, szAll, Bool.and_true] at this
      show (szB (stepD s) && szAll (O.map optD)) = true
      rw [this, ih]
      rfl
section
variable {R : Rx} {k j : Nat} {f4 f7 g : Addr} {cls : Str → Addr} {W : WX} {D : Ends} {H : Hp} {z : Str} {a b po pr fd : Addr} {xs : List V} {t : Nat} {d5 d6 d8 d10 d11 d12 : Option V}
/-- the pair of turns, whatever is due -/
theorem w_lawP {l : List HP} {dv : V} {e : PyData} (N4 : Has R.toRt k "_law_alike" f4 (spAlike R.K 2)) (N7 : Has R.toRt j "read" f7 (spReadX (cls "BadText"))) (NT : HasZ R.toRt k "_law_told" g (spTold R.toRt (j + 1) cls)) (hz : z.length ≤ 9000)
    (y : SL (tabsOk R.T :: l) H) (hdp : ∀ H', SL l H' → Dp R.K H' dv e) (hsz : szB e = true) (hde : e.depth ≤ 2)
    (hok : ∀ S, (rowsOf z).map rowQ = S.map some → e = stepsD S) (hbad : ∀ i, FirstBad (rowsOf z) i → e = .tuple [.str "BadText", .int (i : Nat)])
    (hnx : ∀ d12 H', SL (tabsOk R.T :: l) H' → D.nx [some (.ref a), some (.ref b), some (.ref po), some (.int (t : Nat)), some (.ref pr), d5, d6, some (.str z), d8, some (.ref fd), d10, some dv, d12] H') :
    wSs R k (.cons (.fors (.nm 12) (.rng1 (.int 2))
  (.cons (.ifs (.nt (.val (.call "_law_alike" (.cons (.callZ "_law_told" (.cons (.lam (.call "read" (.cons (.var 7) .nil))) .nil)) (.cons (.var 11) .nil)))))
  (.cons (.ret (.bl false))
  .nil)
  .nil)
  .nil))
  .nil) W D [some (.ref a), some (.ref b), some (.ref po), some (.int (t : Nat)), some (.ref pr), d5, d6, some (.str z), d8, some (.ref fd), d10, some dv, d12] H := by
  refine q_for (i_rng (e_int ?_))
  refine l_rng (n := 2) (fun u σ H => SL (tabsOk R.T :: l) H ∧ ∃ d, σ = [some (.ref a), some (.ref b), some (.ref po), some (.int (t : Nat)), some (.ref pr), d5, d6, some (.str z), d8, some (.ref fd), d10, some dv, d]) (by decide) ⟨y, _, rfl⟩ (fun u σ H hu I => ?_) fun σ H I => ?_
  rotate_left
  · obtain ⟨y, d, rfl⟩ := I
    exact hnx _ _ y
  obtain ⟨y, d, rfl⟩ := I
  show wSs R k _ _ _ [some (.ref a), some (.ref b), some (.ref po), some (.int (t : Nat)), some (.ref pr), d5, d6, some (.str z), d8, some (.ref fd), d10, some dv, some (.int (u : Nat))] H
  refine q_if (t_nt (t_val (e_call N4.mg N4.kp (es_cons ?_))))
  have fin : ∀ v H' d, SL (tabsOk R.T :: l) H' → Dp R.K H' v d → d = e → wEs R k (.cons (.var 11) .nil) W [some (.ref a), some (.ref b), some (.ref po), some (.int (t : Nat)), some (.ref pr), d5, d6, some (.str z), d8, some (.ref fd), d10, some dv, some (.int (u : Nat))] H' fun xs H2 => ∃ sp, CallOk R.toRt k f4 sp ∧ sp (v :: xs) H2 (fun x H1 => ∃ c, TruV R.K x H1 c ∧ if (!c) = true then wSs R k (.cons (.ret (.bl false)) .nil) W { D with nx := fun σ' H' => wSs R k .nil W { D with nx := fun σ H => SL (tabsOk R.T :: l) H ∧ ∃ d, σ = [some (.ref a), some (.ref b), some (.ref po), some (.int (t : Nat)), some (.ref pr), d5, d6, some (.str z), d8, some (.ref fd), d10, some dv, d], ct := fun σ H => SL (tabsOk R.T :: l) H ∧ ∃ d, σ = [some (.ref a), some (.ref b), some (.ref po), some (.int (t : Nat)), some (.ref pr), d5, d6, some (.str z), d8, some (.ref fd), d10, some dv, d], bk := fun σ' H' => wSs R k .nil W D σ' H' } σ' H' } [some (.ref a), some (.ref b), some (.ref po), some (.int (t : Nat)), some (.ref pr), d5, d6, some (.str z), d8, some (.ref fd), d10, some dv, some (.int (u : Nat))] H1 else wSs R k .nil W { D with nx := fun σ' H' => wSs R k .nil W { D with nx := fun σ H => SL (tabsOk R.T :: l) H ∧ ∃ d, σ = [some (.ref a), some (.ref b), some (.ref po), some (.int (t : Nat)), some (.ref pr), d5, d6, some (.str z), d8, some (.ref fd), d10, some dv, d], ct := fun σ H => SL (tabsOk R.T :: l) H ∧ ∃ d, σ = [some (.ref a), some (.ref b), some (.ref po), some (.int (t : Nat)), some (.ref pr), d5, d6, some (.str z), d8, some (.ref fd), d10, some dv, d], bk := fun σ' H' => wSs R k .nil W D σ' H' } σ' H' } [some (.ref a), some (.ref b), some (.ref po), some (.int (t : Nat)), some (.ref pr), d5, d6, some (.str z), d8, some (.ref fd), d10, some dv, some (.int (u : Nat))] H1) (WE W [some (.ref a), some (.ref b), some (.ref po), some (.int (t : Nat)), some (.ref pr), d5, d6, some (.str z), d8, some (.ref fd), d10, some dv, some (.int (u : Nat))]) := by
    intro v H' d yy hd he
    refine es_cons (e_var rfl (es_nil ?_))
    refine x_sp N4.ok ⟨v, dv, d, e, rfl, hd, hdp H' yy.tail, hsz, hde, fun bb hbb => ?_⟩
    rw [hbb.mpr he]
    exact tr_bl (x_iff ⟨yy, _, rfl⟩)
  refine e_told NT y tabsX_up fun H1 Qn En x1 hQ hE => ?_
  refine e_call N7.mg N7.kp (es_cons (e_var rfl (es_nil ?_)))
  refine x_sp N7.ok ⟨z, tabsOk R.T :: l, rfl, by omega, x1, fun S hS p xs H' yy => hQ _ _ ?_, fun i hi d H' yy => ?_⟩
  · have hs := SL.up (fun _ _ => StepsA.up) (.tail _ (.head _)) yy
    exact fin _ _ _ yy.tail.tail (dp_steps (sq_l (SL.get (.head _) yy)) hs) (hok S hS).symm
  · refine hE "BadText" (by decide +kernel) (.int (i : Nat)) d _ H' (SL.get (.head _) yy) (fun _ => rfl) (fun n => absurd rfl n) fun p H'' up ep => ?_
    have y2 : SL (tabsOk R.T :: l) H'' := (SL.mono (fun a o q => up a o q) yy).tail
    exact fin _ _ _ y2 (.tup (st_t ep) (.cons (.str _) (.cons (.int _) .nil))) (hbad i hi).symm
theorem w_lawE {l : List HP} (N4 : Has R.toRt k "_law_alike" f4 (spAlike R.K 2)) (N7 : Has R.toRt j "read" f7 (spReadX (cls "BadText"))) (NT : HasZ R.toRt k "_law_told" g (spTold R.toRt (j + 1) cls)) (hz : z.length ≤ 9000)
    (y : SL (pt fd (.lst xs) :: OA xs ((rowsOf z).map rowQ) :: tabsOk R.T :: l) H)
    (hnx : ∀ d11 d12 H', SL (tabsOk R.T :: l) H' → D.nx [some (.ref a), some (.ref b), some (.ref po), some (.int (t : Nat)), some (.ref pr), d5, d6, some (.str z), d8, some (.ref fd), d10, d11, d12] H') :
    wSs R k b_lawE W D [some (.ref a), some (.ref b), some (.ref po), some (.int (t : Nat)), some (.ref pr), d5, d6, some (.str z), d8, some (.ref fd), d10, d11, d12] H := by
  have sz : (1000100 : Nat) < sizeLine := by rw [sizeLine_eq]; decide
  have gO := rowQ_good (rowsOf z)
  have hlO : ((rowsOf z).map rowQ).length ≤ 9001 := by
    rw [List.length_map]
    unfold rowsOf
    by_cases h0 : z = ""
    · rw [if_pos h0]; exact Nat.zero_le _
    · rw [if_neg h0]
      have h1 := split_meas (z := z) tl_nl nl_low
      have h2 := meas_len (Txt.split z "\n")
      omega
  have hO1 : ∀ S, (rowsOf z).map rowQ = S.map some → .list (((rowsOf z).map rowQ).map optD) = stepsD S := fun S e => by
    rw [e]
    unfold stepsD
    rw [List.map_map]
    rfl
  unfold b_lawE
  refine q_set (e_ife (t_cmp (e_cmp (e_non (e_var rfl ?_)))))
  have oa := SL.up (fun _ _ => OA.up) (.tail _ (.head _)) y
  have hfd : H fd = some (.lst xs) := SL.get (.head _) y
  have dO : Dp R.K H (.ref fd) (.list (((rowsOf z).map rowQ).map optD)) := .lst (sq_l hfd) (dp_opt oa)
  refine .inr (.inl ⟨.none, _, .non, dO, by decide +kernel, shaped_opt gO, ?_⟩)
  have hany : ((((rowsOf z).map rowQ).map optD).any fun q => PyData.eqv q .none) = ((rowsOf z).map rowQ).any Option.isNone := by
    rw [List.any_map]
    congr 1
    funext o
    exact eqv_none o
  rw [hany]
  cases hO : ((rowsOf z).map rowQ).any Option.isNone with
  | false =>
    refine x_bl (x_iff (e_var rfl ?_))
    obtain ⟨S, hS⟩ := all_some hO
    have hlen : (((rowsOf z).map rowQ).map optD).length ≤ sizeLine := by rw [List.length_map]; omega
    refine w_lawP (l := pt fd (.lst xs) :: OA xs ((rowsOf z).map rowQ) :: l) N4 N7 NT hz (y.perm (List.perm_middle (l₁ := [_, _]))) (fun H' yy => .lst (sq_l (SL.get (.head _) yy)) (dp_opt (SL.up (fun _ _ => OA.up) (.tail _ (.head _)) yy))) ?_ ?_ hO1 (fun i hi => ?_) fun d12 H' yy => hnx _ _ _ (SL.drop (.tl .hd) (SL.drop (.tl .hd) yy))
    · rw [szB, sz_opt gO, decide_eq_true hlen]
      rfl
    · rw [PyData.depth]
      have := dep_opt ((rowsOf z).map rowQ)
      omega
    · have h1 := (first_bad.mp hi).1
      rw [hS, List.getElem?_map] at h1
      obtain ⟨_, _, h1⟩ := Option.map_eq_some_iff.mp h1
      cases h1
  | true =>
    obtain ⟨i, h1, h2⟩ := first_none hO
    refine x_bl (x_itt (e_tup (es_cons (e_str (es_cons ?_)))))
    refine e_meth (e_var rfl ?_)
    refine x_bm .index (by decide) (ty_l (sq_l hfd)) (es_cons (e_non (es_nil ?_)))
    refine .inr ⟨fd, .non, .none, _, i, optD none, rfl, rfl, dO, .non, shaped_opt gO, by decide +kernel, by rw [List.getElem?_map, h1]; rfl, rfl, fun m z' hm e => ?_, es_nil ?_⟩
    · rw [List.getElem?_map] at e
      obtain ⟨o, e1, rfl⟩ := Option.map_eq_some_iff.mp e
      rw [eqv_none]
      cases o with
      | none => exact absurd rfl (h2 m _ hm e1)
      | some s => rfl
    refine n_tup y (show (2 : Nat) ≤ sizeLine by omega) fun pd Hd yd => ?_
    have hfb : FirstBad (rowsOf z) i := first_bad.mpr ⟨h1, h2⟩
    refine w_lawP (l := pt pd (.tup [.str "BadText", .int (i : Nat)]) :: pt fd (.lst xs) :: OA xs ((rowsOf z).map rowQ) :: l) (e := .tuple [.str "BadText", .int (i : Nat)]) N4 N7 NT hz (yd.perm (List.perm_middle (l₁ := [_, _, _]))) (fun H' yy => .tup (st_t (SL.get (.head _) yy)) (.cons (.str _) (.cons (.int _) .nil))) ?_ ?_ (fun S hS => ?_) (fun i' hi' => ?_) fun d12 H' yy => hnx _ _ _ (SL.drop (.tl .hd) (SL.drop (.tl .hd) (SL.drop (.tl .hd) yy)))
    · rw [szB, decide_eq_true (show ([PyData.str "BadText", PyData.int (i : Nat)] : List PyData).length ≤ sizeLine by show (2 : Nat) ≤ sizeLine; omega)]
      rfl
    · rw [PyData.depth, PyData.depthAll, PyData.depthAll, PyData.depthAll, PyData.depth, PyData.depth]
      decide
    · rw [hS, List.getElem?_map] at h1
      obtain ⟨_, _, h1⟩ := Option.map_eq_some_iff.mp h1
      cases h1
    · have h3 := first_bad.mp hi'
      have : i' = i := by
        rcases Nat.lt_trichotomy i' i with h | h | h
        · exact absurd rfl (h2 i' none h h3.1)
        · exact h
        · exact absurd rfl (h3.2 i none h h1)
      rw [this]
end
theorem SL.right15 : ∀ {m l : List HP} {H : Hp}, SL (m ++ l) H → SL l H
  | [], _, _, y => y
  | _ :: _, _, _, y => SL.right15 (SL.tail y)
theorem k_tupG {R : Rx} {k : Nat} {σ : L2.St} {H : Hp} {Q : VK} {elt : E} {i : Nat} {p : Addr} {xs : List V} {P1 P2 : Prop} (L : Nat → List V → List HP) (x : SL (L 0 []) H) (sq : ∀ t acc H, SL (L t acc) H → SqT R.K H p xs)
    (st : ∀ t acc D H v, xs[t]? = some v → acc.length = t → SL (pt D (.lst acc) :: L t acc) H → wE R k elt W0 ((wipe σ [i]).set i (some v)) H (CompN D t L))
    (en : ∀ acc D H, acc.length = xs.length → SL (pt D (.lst acc) :: L xs.length acc) H → Q (.ref D) H) :
    P1 ∨ (∃ q, V.ref p = .ref q ∧ (∃ xs, SqT R.K H q xs) ∧ CompG R k σ i elt Q (Itt R.K q) H) ∨ P2 := by
  refine .inr (.inl ⟨p, rfl, ⟨xs, sq _ _ _ x⟩, k_gen (n := xs.length) L x (fun t acc D H ht ha hx => ?_) fun acc D H ha hx => ?_⟩)
  · have s1 := sq _ _ _ hx.tail
    refine ⟨⟨xs, xs[t], s1, List.getElem?_eq_getElem ht⟩, fun v H' hy => ?_⟩
    obtain ⟨rfl, hv⟩ := hy
    exact st t acc D _ v (hv xs s1) ha hx
  · exact ⟨⟨xs, sq _ _ _ hx.tail, Nat.le_refl _⟩, en acc D H ha hx⟩
theorem q_ifK15 {R : Rx} {k : Nat} {W : WX} {σ : L2.St} {H : Hp} {a b r : Ss} {t : T} {D : Ends} (I : L2.St → Hp → Prop) (h : (∀ σ' H', I σ' H' → wSs R k r W D σ' H') → wT R k t W σ H fun c H1 => if c = true then wSs R k a W { D with nx := fun σ' H' => wSs R k r W D σ' H' } σ H1 else wSs R k b W { D with nx := fun σ' H' => wSs R k r W D σ' H' } σ H1)
    (hr : ∀ σ' H', I σ' H' → wSs R k r W D σ' H') : wSs R k (.cons (.ifs t a b) r) W D σ H := q_if (h hr)
def pcsS (s : Stp) : List Str := s.1 :: s.2.map numS
theorem stepV_get {s : Stp} {t : Nat} {v : V} (h : (stepV s)[t]? = some v) : (v = .str s.1 ∧ (pcsS s)[t]? = some s.1) ∨ ∃ n ∈ s.2, v = .int (n : Nat) ∧ (pcsS s)[t]? = some (numS n) := by
  cases t with
  | zero =>
    cases h
    exact .inl ⟨rfl, rfl⟩
  | succ t =>
    have h : (s.2.map fun n => V.int (n : Nat))[t]? = some v := h
    rw [List.getElem?_map] at h
    obtain ⟨n, h1, rfl⟩ := Option.map_eq_some_iff.mp h
    refine .inr ⟨n, List.mem_of_getElem? h1, rfl, ?_⟩
    show (s.2.map numS)[t]? = _
    rw [List.getElem?_map, h1]
    rfl
theorem words_plain : ∀ p ∈ words, (TL.tl p.1).all (fun c => decide (c < 1114112)) = true := by decide +kernel
theorem numS_plain (n : Nat) : Plain (numS n) := fun c hc => by
  rw [tl_numS] at hc
  have := TL.numL_digits n c hc
  omega
theorem parts_plain {s : Stp} (g : Good s) : PlainL (pcsS s) := fun z hz => by
  rcases List.mem_cons.mp hz with rfl | hz
  · exact plain_b (words_plain _ g.w)
  · obtain ⟨n, _, rfl⟩ := List.mem_map.mp hz
    exact numS_plain n
def oddT : List Str := ["", " ", "\n", "make 1 2", "step ", " step", "read 1", "again\n", "\nagain", "arm -1", "room 07", "lose"]
theorem oddT_ok : ∀ y ∈ oddT, y.length ≤ 10 ∧ (TL.tl y).all (fun c => decide (c < 1114112)) = true := by decide +kernel
theorem oddT_len : oddT.length = 12 := rfl
def spLaw15 (K : PySem.W.Frag) (T : List (Addr × Str)) : Sp := fun vs H Q _ => ∃ (a : Addr) (ns : List Int) (l : List HP), vs = [.ref a] ∧ ns.length ≤ sizeLine ∧ SL (tabsOk T :: l) H ∧ (∀ H', SL l H' → SqL K H' a (ns.map V.int)) ∧ ∀ H', Q (.bl true) H'
def bnd (j : Nat) : Nat := 300 * 3 ^ j
theorem bnd_succ (j : Nat) : bnd (j + 1) = 3 * bnd j := by
  unfold bnd
  rw [Nat.pow_succ]
  omega
theorem bnd_le {j : Nat} (h : j ≤ 3) : bnd j ≤ 8100 := by
  have : j = 0 ∨ j = 1 ∨ j = 2 ∨ j = 3 := by omega
  rcases this with rfl | rfl | rfl | rfl <;> decide
theorem w_law15 {R : Rx} {k j : Nat} {f1 f2 f3 f4 f5 f6 f7 g : Addr} {cls : Str → Addr} {vs : List V} {H : Hp} {Q : VK} {X : XK} (N1 : Has R.toRt k "_law_begun" f1 (spBegun R.K)) (N2 : Has R.toRt k "_law_take" f2 spTake) (N3 : Has R.toRt k "_law_anystep" f3 spAny) (N4 : Has R.toRt k "_law_alike" f4 (spAlike R.K 2))
    (N5 : Has R.toRt k "_law_step" f5 spStepL) (N6 : Has R.toRt k "_law_spoilt" f6 spSpoilt) (N7 : Has R.toRt j "read" f7 (spReadX (cls "BadText"))) (NT : HasZ R.toRt k "_law_told" g (spTold R.toRt (j + 1) cls)) (h : spLaw15 R.K R.T vs H Q X) : wSs R k b_law15 (fun cls d _ H' => X cls d H') { nx := fun _ H' => Q .non H', rt := Q } (L2.start N_law15 vs) H := by
  obtain ⟨a, is, l0, rfl, hl, x0, sq0, hq⟩ := h
  have sz : (1000100 : Nat) < sizeLine := by rw [sizeLine_eq]; decide
  show wSs R k b_law15 _ _ [some (.ref a), none, none, none, none, none, none, none, none, none, none, none, none] H
  unfold b_law15
  walk_at "go"
  refine e_call N1.mg N1.kp ?_
  walk_at "go"
  refine x_sp N1.ok ⟨a, is, tabsOk R.T :: l0, rfl, hl, x0, fun H' z => sq0 H' z.tail, fun b H1 x1 => ?_⟩
  have x2 : SL (BoxA b :: [tabsOk R.T]) H1 := (SL.perm (l := BoxA b :: tabsOk R.T :: l0) (l' := l0 ++ [BoxA b, tabsOk R.T]) (List.perm_append_comm (l₁ := [BoxA b, tabsOk R.T]) (l₂ := l0)) x1).right15
  clear x0 x1
  refine q_set (e_lst ?_)
  repeat (first | refine es_cons ?_ | refine e_str ?_ | refine es_nil ?_)
  refine n_lst x2 (by decide) fun po H2 x3 => ?_
  have x3 : SL (BoxA b :: tabsOk R.T :: pt po (.lst (oddT.map V.str)) :: []) H2 := x3.perm (by exact (List.perm_append_comm (l₁ := [_]) (l₂ := [_, _])))
  clear x2
  refine q_for (i_rng (e_int ?_))
  refine l_rng (n := 6) (fun _ σ H => SL (BoxA b :: tabsOk R.T :: pt po (.lst (oddT.map V.str)) :: []) H ∧ ∃ c3 c4 c5 c6 c7 c8 c9 c10 c11 c12, σ = [some (.ref a), some (.ref b), some (.ref po), c3, c4, c5, c6, c7, c8, c9, c10, c11, c12]) (by decide) ⟨x3, _, _, _, _, _, _, _, _, _, _, rfl⟩ (fun t σ H ht I => ?_) fun σ H I => ?_
  rotate_left
  · obtain ⟨y, c3, c4, c5, c6, c7, c8, c9, c10, c11, c12, rfl⟩ := I
    walk_at "go"
    exact hq _
  obtain ⟨y, c3, c4, c5, c6, c7, c8, c9, c10, c11, c12, rfl⟩ := I
  clear x3
  walk_at "go"
  rename_i pr H3 y3
  have y3 : SL (pt pr (.lst (([] : List Str).map V.str)) :: BoxA b :: tabsOk R.T :: pt po (.lst (oddT.map V.str)) :: []) H3 := y3
  clear y
  refine e_call N2.mg N2.kp ?_
  walk_at "go"
  refine x_sp N2.ok ⟨b, 8, pt pr (.lst (([] : List Str).map V.str)) :: tabsOk R.T :: pt po (.lst (oddT.map V.str)) :: [], rfl, by decide, by decide, y3.swap, fun H4 i i0 i1 y4 => ?_⟩
  obtain ⟨n, rfl⟩ : ∃ n : Nat, i = (n : Int) := ⟨i.toNat, by omega⟩
  clear y3
  refine l_rng (n := n) (fun u σ H => ∃ (rs : List Str) (d5 d6 : Option V), rs.length = u ∧ meas rs ≤ 33 * u ∧ PlainL rs ∧ SL (pt pr (.lst (rs.map V.str)) :: BoxA b :: tabsOk R.T :: pt po (.lst (oddT.map V.str)) :: []) H ∧ σ = [some (.ref a), some (.ref b), some (.ref po), some (.int (t : Nat)), some (.ref pr), d5, d6, c7, c8, c9, c10, c11, c12]) (by omega) ⟨[], _, _, rfl, (by decide), (fun _ h => by cases h), y4.swap, rfl⟩ (fun u σ H hu I => ?_) fun σ H I => ?_
  · obtain ⟨rs, d5, d6, hrl, hrm, hrp, y, rfl⟩ := I
    walk_at "go"
    refine x_bm .append (by decide) (ty_l (sq_l (SL.get (.head _) y))) (es_cons ?_)
    walk_at "go"
    refine x_bm .join (by decide) ty_s ?_
    walk_at "go"
    refine e_comp ?_
    walk_at "go"
    refine e_call N3.mg N3.kp ?_
    walk_at "go"
    refine x_sp N3.ok ⟨b, _, rfl, y.swap, fun q s H5 gs y5 => ?_⟩
    refine k_tupG (fun t' acc => (fun _ => acc = ((pcsS s).map V.str).take t') :: pt q (.tup (stepV s)) :: BoxA b :: pt pr (.lst (rs.map V.str)) :: tabsOk R.T :: pt po (.lst (oddT.map V.str)) :: []) (y5.add (by simp)) (fun t' acc H y => st_t (SL.get (.tail _ (.head _)) y)) (fun t' acc D H6 v hv ha y6 => ?_) fun acc D H6 ha y6 => ?_
    · obtain ⟨hacc, y7⟩ := y6.swap.fact
      have ht' := (List.getElem?_eq_some_iff.mp hv).1
      have few := gs.few
      have hsl : (stepV s).length = s.2.length + 1 := by simp [stepV]
      show wE R k _ W0 [some (.ref a), some (.ref b), some (.ref po), some (.int (t : Nat)), some (.ref pr), some (.int (u : Nat)), some v, c7, c8, c9, c10, c11, c12] H6 _
      rcases stepV_get hv with ⟨rfl, hp⟩ | ⟨m, hm, rfl, hp⟩
      · walk_at "go"
        refine .inr ⟨_, rfl, ?_⟩
        refine CompN.of ha (by omega) ((y7.add (P := acc ++ [_] = _) (take_next hacc ?_)).swap)
        rw [List.getElem?_map, hp]
        rfl
      · walk_at "go"
        refine i_strM (gs.n m hm) ?_
        refine CompN.of ha (by omega) ((y7.add (P := acc ++ [_] = _) (take_next hacc ?_)).swap)
        rw [List.getElem?_map, hp]
        rfl
    · obtain ⟨hacc, y7⟩ := y6.swap.fact
      have hsl : (stepV s).length = s.2.length + 1 := by simp [stepV]
      rw [hsl, List.take_of_length_le (by simp [pcsS])] at hacc
      subst hacc
      have sm := split_meas (z := rowS s) tl_sp sp_low
      rw [gs.split] at sm
      have sm : meas (pcsS s) = (rowS s).length + 1 := sm
      have rl := gs.row_len
      walk_at "go"
      refine m_joinL tl_sp (sq_l (SL.get (.head _) y7)) (by omega) ?_
      have jl := join_meas tl_sp (pcsS s)
      have jp := plain_join (y := " ") (plain_b (by decide +kernel)) (parts_plain gs)
      obtain ⟨rw_, erw⟩ : ∃ r, Txt.join " " (pcsS s) = r := ⟨_, rfl⟩
      have erow : rw_ = rowS s := erw.symm
      rw [erw] at jl jp ⊢
      walk_at "go"
      refine m_app y7 (.tl (.tl (.tl .hd))) (by rw [List.length_map]; omega) fun H7 y8 => ?_
      walk_at "go"
      refine ⟨rs ++ [rw_], _, _, by simp [hrl], ?_, hrp.app (fun z hz => by rw [List.mem_singleton.mp hz]; exact jp), ?_, rfl⟩
      · rw [meas_append, meas_cons, erow]
        simp only [meas, List.map_nil, List.sum_nil]
        show meas rs + ((rowS s).length + 1 + 0) ≤ _
        omega
      · rw [List.map_append]
        exact y8.tail.tail.swap
  obtain ⟨rs, d5, d6, hrl, hrm, hrp, y, rfl⟩ := I
  have hn : n < 8 := by omega
  clear y4
  refine q_set ?_
  walk_at "go"
  refine x_bm .join (by decide) ty_s ?_
  walk_at "go"
  refine m_joinL tl_nl (sq_l (SL.get (.head _) y)) (by omega) ?_
  have jl := join_meas tl_nl rs
  have jp := plain_join (y := "\n") (plain_b (by decide +kernel)) hrp
  obtain ⟨z0, ez0⟩ : ∃ z, Txt.join "\n" rs = z := ⟨_, rfl⟩
  rw [ez0] at jl jp ⊢
  have y2 : SL (BoxA b :: tabsOk R.T :: pt po (.lst (oddT.map V.str)) :: []) H := y.tail
  clear y
  refine q_ifK15 (fun σ H => ∃ z : Str, z.length ≤ 260 ∧ Plain z ∧ SL (BoxA b :: tabsOk R.T :: pt po (.lst (oddT.map V.str)) :: []) H ∧ σ = [some (.ref a), some (.ref b), some (.ref po), some (.int (t : Nat)), some (.ref pr), d5, d6, some (.str z), c8, c9, c10, c11, c12]) (fun kon => ?_) fun σ H I => ?_
  · refine t_cmp (e_cmp ?_)
    refine e_call N2.mg N2.kp ?_
    walk_at "go"
    refine x_sp N2.ok ⟨b, 5, tabsOk R.T :: pt po (.lst (oddT.map V.str)) :: [], rfl, by decide, by decide, y2, fun H5 i i0 i1 y5 => ?_⟩
    refine e_int (c_eqI ?_)
    refine x_bl ?_
    by_cases hi : i = 0
    · refine x_dt (decide_eq_true hi) ?_
      refine q_set (e_sub (e_var rfl ?_))
      refine e_call N2.mg N2.kp ?_
      walk_at "go"
      refine x_sp N2.ok ⟨b, 12, tabsOk R.T :: pt po (.lst (oddT.map V.str)) :: [], rfl, by decide, by decide, y5, fun H6 o o0 o1 y6 => ?_⟩
      obtain ⟨o, rfl⟩ : ∃ o' : Nat, o = (o' : Int) := ⟨o.toNat, by omega⟩
      have ho : o < oddT.length := by rw [oddT_len]; omega
      refine s_lst (sq_l (SL.get (.tail _ (.tail _ (.head _))) y6)) (v := .str oddT[o]) (by rw [List.getElem?_map, List.getElem?_eq_getElem ho]; rfl) ?_
      obtain ⟨o3, o4⟩ := oddT_ok oddT[o] (List.getElem_mem ho)
      exact kon _ _ ⟨oddT[o], by omega, plain_b o4, y6, rfl⟩
    · refine x_df (decide_eq_false hi) ?_
      exact kon _ _ ⟨z0, by omega, jp, y5, rfl⟩
  obtain ⟨z1, hz1, hp1, y3, rfl⟩ := I
  clear y2
  refine q_for (i_rng ?_)
  refine e_call N2.mg N2.kp ?_
  walk_at "go"
  refine x_sp N2.ok ⟨b, 4, tabsOk R.T :: pt po (.lst (oddT.map V.str)) :: [], rfl, by decide, by decide, y3, fun H5 i i0 i1 y4 => ?_⟩
  obtain ⟨m, rfl⟩ : ∃ n : Nat, i = (n : Int) := ⟨i.toNat, by omega⟩
  clear y3
  refine l_rng (n := m) (fun u σ H => ∃ (z : Str) (d8 : Option V), z.length + 15 ≤ bnd u ∧ Plain z ∧ SL (BoxA b :: tabsOk R.T :: pt po (.lst (oddT.map V.str)) :: []) H ∧ σ = [some (.ref a), some (.ref b), some (.ref po), some (.int (t : Nat)), some (.ref pr), d5, d6, some (.str z), d8, c9, c10, c11, c12]) (by omega) ⟨z1, _, by show _ ≤ 300 * 3 ^ 0; omega, hp1, y4, rfl⟩ (fun u σ H hu I => ?_) fun σ H I => ?_
  · obtain ⟨z, d8, hb, hp, y, rfl⟩ := I
    have hbl := bnd_le (j := u) (by omega)
    have hbs := bnd_succ u
    refine q_set ?_
    refine e_call N6.mg N6.kp ?_
    walk_at "go"
    refine x_sp N6.ok ⟨b, z, tabsOk R.T :: pt po (.lst (oddT.map V.str)) :: [], rfl, by omega, hp, y, fun z' hz' hp' H6 y6 => ?_⟩
    exact ⟨z', _, by omega, hp', y6, rfl⟩
  obtain ⟨z, d8, hb, hp, y, rfl⟩ := I
  have hbl := bnd_le (j := m) (by omega)
  clear y4
  have kon : ∀ (fd : Addr) (xs : List V) (d10 : Option V) (H : Hp), SL (pt fd (.lst xs) :: OA xs ((rowsOf z).map rowQ) :: tabsOk R.T :: BoxA b :: pt po (.lst (oddT.map V.str)) :: []) H → ∀ D : Ends, (∀ d8 d9 d10 d11 d12 H', SL (tabsOk R.T :: BoxA b :: pt po (.lst (oddT.map V.str)) :: []) H' → D.nx [some (.ref a), some (.ref b), some (.ref po), some (.int (t : Nat)), some (.ref pr), d5, d6, some (.str z), d8, d9, d10, d11, d12] H') →
      wSs R k b_lawE (fun cls d _ H' => X cls d H') D [some (.ref a), some (.ref b), some (.ref po), some (.int (t : Nat)), some (.ref pr), d5, d6, some (.str z), d8, some (.ref fd), d10, c11, c12] H := fun fd xs d10 H yy D hD => w_lawE N4 N7 NT (by omega) yy fun d11 d12 H' y' => hD _ _ _ _ _ _ y'
  have nxt : ∀ d8 d9 d10 d11 d12 H', SL (tabsOk R.T :: BoxA b :: pt po (.lst (oddT.map V.str)) :: []) H' → (fun σ H => SL (BoxA b :: tabsOk R.T :: pt po (.lst (oddT.map V.str)) :: []) H ∧ ∃ c3 c4 c5 c6 c7 c8 c9 c10 c11 c12, σ = [some (.ref a), some (.ref b), some (.ref po), c3, c4, c5, c6, c7, c8, c9, c10, c11, c12]) [some (.ref a), some (.ref b), some (.ref po), some (.int (t : Nat)), some (.ref pr), d5, d6, some (.str z), d8, d9, d10, d11, d12] H' := fun d8 d9 d10 d11 d12 H' yy => ⟨yy.swap, _, _, _, _, _, _, _, _, _, _, rfl⟩
  refine q_set (e_ife (t_cmp (e_cmp (e_var rfl (e_str (c_neS ?_))))))
  by_cases h0 : z = ""
  · rw [decide_eq_true h0]
    refine x_bl (x_iff ?_)
    walk_at "go"
    rename_i fd H6 y6
    refine kon fd [] _ H6 ?_ _ nxt
    rw [show rowsOf z = [] from by unfold rowsOf; rw [if_pos h0]]
    exact ((OA.nil y6).swap.perm (((List.Perm.swap _ _ _).cons _).cons _))
  · rw [decide_eq_false h0]
    refine x_bl (x_itt ?_)
    have er : rowsOf z = Txt.split z "\n" := by unfold rowsOf; rw [if_neg h0]
    have sm := split_meas (z := z) tl_nl nl_low
    have pp := plain_split tl_nl nl_low hp
    rw [← er] at sm pp
    obtain ⟨rows, erow⟩ : ∃ rows, rowsOf z = rows := ⟨_, rfl⟩
    refine e_comp ?_
    walk_at "go"
    refine x_bm .split (by decide) ty_s ?_
    walk_at "go"
    refine m_split len1'.1 (by omega) y fun p H6 y6 => ?_
    rw [← er] at y6
    rw [erow] at sm pp y6 kon
    have hrl2 := meas_len rows
    refine k_lst (fun t' acc => OA acc ((rows.map rowQ).take t') :: pt p (.lst (rows.map V.str)) :: BoxA b :: tabsOk R.T :: pt po (.lst (oddT.map V.str)) :: []) (OA.nil y6) (fun t' acc H y => sq_l (SL.get (.tail _ (.head _)) y)) (fun t' acc D H7 v hv ha y7 => ?_) fun acc D H7 ha y7 => ?_
    · have ht' := (List.getElem?_eq_some_iff.mp hv).1
      simp only [List.length_map] at ht'
      rw [List.getElem?_map, List.getElem?_eq_getElem ht'] at hv
      cases hv
      have hml := meas_mem (List.getElem_mem ht' : rows[t'] ∈ rows)
      have hO : (rows.map rowQ)[t']? = some (rowQ rows[t']) := by rw [List.getElem?_map, List.getElem?_eq_getElem ht']; rfl
      refine e_call N5.mg N5.kp (es_cons (e_var rfl (es_nil ?_)))
      refine x_sp N5.ok ⟨rows[t'], _, rfl, by omega, pp _ (List.getElem_mem ht'), y7, fun s hs q H8 y8 => ?_, fun hno H8 y8 => ?_⟩
      · refine CompN.of ha (by omega) ?_
        have y9 := y8.perm (l' := pt q (.tup (stepV s)) :: OA acc ((rows.map rowQ).take t') :: pt D (.lst acc) :: pt p (.lst (rows.map V.str)) :: BoxA b :: tabsOk R.T :: pt po (.lst (oddT.map V.str)) :: []) ((List.Perm.swap _ _ _).cons _)
        have y10 := y9.oSome
        rw [take_next (l := rows.map rowQ) (t := t') rfl (by rw [hO, rowQ_some.mpr hs])] at y10
        exact y10.swap
      · refine CompN.of ha (by omega) ?_
        have y10 := y8.swap.oNone
        rw [take_next (l := rows.map rowQ) (t := t') rfl (by rw [hO, rowQ_none.mpr hno])] at y10
        exact y10.swap
    · rw [List.length_map, List.take_of_length_le (by simp)] at y7
      refine kon D acc _ H7 ?_ _ nxt
      exact (SL.drop (.tl (.tl .hd)) y7).perm (((List.Perm.swap _ _ _).cons _).cons _)
end Zw
set_option Elab.async false
set_option linter.all false
set_option maxRecDepth 100000
set_option maxHeartbeats 4000000
namespace Zw
open PySem PySem.Spec PyProof.Rows L2
def top15 (i : Nat) : Stmt := PySem.Challenge.pw_volumehall_k15_texts_of_no_steps.main.body.getD i (.Pass ⟨0, 0, 0, 0⟩)
def inClass15 (s : Stmt) (j : Nat) : Stmt := match s with | .ClassDef _ _ _ body _ _ _ _ _ _ _ => body.getD j (.Pass ⟨0, 0, 0, 0⟩) | _ => s
theorem c15_is_figures : cSs N_is_figures 60 .no (defScope (top15 16)) (defBody (top15 16)) = some b_is_figures := by kernel_rfl
theorem s15_is_figures : scopeB N_is_figures ["text"] (defScope (top15 16)) = true := by decide +kernel
theorem c15_read_row : cSs N_read_row 60 .no (defScope (top15 17)) (defBody (top15 17)) = some b_read_rowX := by kernel_rfl
theorem s15_read_row : scopeB N_read_row ["row", "line"] (defScope (top15 17)) = true := by decide +kernel
theorem c15_read : cSs N_read 60 .no (defScope (top15 18)) (defBody (top15 18)) = some b_readX := by kernel_rfl
theorem s15_read : scopeB N_read ["text"] (defScope (top15 18)) = true := by decide +kernel
theorem c15_begun : cSs N_begun 60 .no (defScope (top15 20)) (defBody (top15 20)) = some b_begun := by kernel_rfl
theorem s15_begun : scopeB N_begun ["_law_script"] (defScope (top15 20)) = true := by decide +kernel
theorem c15_take : cSs N_take 60 .no (defScope (top15 21)) (defBody (top15 21)) = some b_take := by kernel_rfl
theorem s15_take : scopeB N_take ["_law_box", "_law_many"] (defScope (top15 21)) = true := by decide +kernel
theorem c15_alike : cSs N_alike 60 .no (defScope (top15 22)) (defBody (top15 22)) = some b_alike := by kernel_rfl
theorem s15_alike : scopeB N_alike ["_law_found", "_law_due"] (defScope (top15 22)) = true := by decide +kernel
theorem c15_told : cSs N_told 60 .no (defScope (top15 23)) (defBody (top15 23)) = some b_told := by kernel_rfl
theorem s15_told : scopeB N_told ["_law_work"] (defScope (top15 23)) = true := by decide +kernel
theorem c15_anystep : cSs N_anystep 60 .no (defScope (top15 25)) (defBody (top15 25)) = some b_anystep := by kernel_rfl
theorem s15_anystep : scopeB N_anystep ["_law_box"] (defScope (top15 25)) = true := by decide +kernel
theorem c15_step : cSs N_stepL 60 .no (defScope (top15 26)) (defBody (top15 26)) = some b_stepL := by kernel_rfl
theorem s15_step : scopeB N_stepL ["_law_row"] (defScope (top15 26)) = true := by decide +kernel
theorem c15_spoilt : cSs N_spoilt 60 .no (defScope (top15 27)) (defBody (top15 27)) = some b_spoilt := by kernel_rfl
theorem s15_spoilt : scopeB N_spoilt ["_law_box", "_law_text"] (defScope (top15 27)) = true := by decide +kernel
theorem c15_law : cSs N_law15 60 .lam (defScope (top15 28)) (defBody (top15 28)) = some b_law15 := by kernel_rfl
theorem s15_law : scopeB N_law15 ["_law_script"] (defScope (top15 28)) = true := by decide +kernel
theorem fn_rowInit2 {P : Program} {w : World} {K : PySem.W.Frag} {mg : Str → Option Value} {base : Heap} {VE : Addr} {st : Stmt} {qual t1 t2 : Str} {f : Addr} {fd : FuncData} {j1 j2 : Nat} {p1 p2 p3 p4 p5 p6 p7 p8 p9 p10 p11 p12 p13 p14 : Pos}
    (F : Fun K "__init__" qual st f fd) (S : FnScope ["self", "row"] ["self", "row"] (defScope st)) (hg : List.lookup ("VolumeError" : Str) (defScope st).names = some NameKind.globalImplicit) (U : UpC P w K mg base VE)
    (hbody : defBody st = [.Expr (.Call (.Attribute (.Name "VolumeError" p1) "__init__" p2) [.Name "self" p3, .JoinedStr [.Constant (.str t1) j1 p10, .FormattedValue (.Name "row" p11) (-1) none p12, .Constant (.str t2) j2 p13] p4] [] p5) p6, .Assign [.Attribute (.Name "self" p7) "row" p8] (.Name "row" p9) p14])
    (hz : t1.length + t2.length ≤ 100)
    (hc : ∀ env : Env, ∃ pl : Sem Bool, eval (.Call (.Attribute (.Name "VolumeError" p1) "__init__" p2) [.Name "self" p3, .JoinedStr [.Constant (.str t1) j1 p10, .FormattedValue (.Name "row" p11) (-1) none p12, .Constant (.str t2) j2 p13] p4] [] p5) env = (do
      let ov ← eval (.Name "VolumeError" p1) env
      standAt p2.atName
      let (f, first) ← holding [ov] (getMethod ov "__init__" pl)
      callWith p5 f first (backTo p5 (starEach [.Name "self" p3, .JoinedStr [.Constant (.str t1) j1 p10, .FormattedValue (.Name "row" p11) (-1) none p12, .Constant (.str t2) j2 p13] p4] env)) (backToKw p5 (keywordEach [] env)))) :
    FnOk P w K mg base (L2.CX P w) 2 f fd ["self", "row"] (spRowInit K) := by
  refine F.okX (k := 1) S (fun vs H Q E h => by obtain ⟨_, _, _, _, rfl, _⟩ := h; rfl) fun cdv A outer s H vs Q E hr h => ?_
  obtain ⟨a, C, nm, i, rfl, hi, ea, oex, exc, nam, kin, rin, q⟩ := h
  obtain ⟨fI, u1, u2, u3⟩ := U.fn
  rw [hbody]
  have vs1 : ∀ x ∈ (["self", "row"] : List Str), Vis (defScope st) x := fun x hx => (S.par x hx).elim .inl fun z => .inr (.inl z)
  have v0 : Vis (defScope st) "self" := vs1 _ List.mem_cons_self
  have v1 : Vis (defScope st) "row" := vs1 _ (List.mem_cons_of_mem _ List.mem_cons_self)
  obtain ⟨pl, hc⟩ := hc (cxOf (L2.CX P w) P w K mg base ["self", "row"] qual (defScope st) f cdv A outer s H E).env
  refine ⟨_, pss_cons (ps_expr (pe_upinit (pl := pl) (VE := VE) rfl hr hg (by decide) U.mgv U.rd u1 u2 u3 (pa_cons (pe_var (i := 0) rfl v0) (pa_cons (pe_joined (.cons pe_str (.cons (pe_fmt (pe_var (i := 1) rfl v1)) (.cons pe_str .nil)))) pa_nil)) hc)) (pss_one (ps_ost (pe_var (i := 0) rfl v0) (pe_var (i := 1) rfl v1))), ?_⟩
  have li := int_text_length_le10 (k := 9) (by decide) hi
  have hi2 : i.natAbs.log2 < 1920 := by
    by_cases h0 : i.natAbs = 0
    · rw [h0]; decide
    · rw [Nat.log2_lt h0]
      exact Nat.lt_trans hi (by decide +kernel)
  have l0 : (Str.ofString (toString i)).length ≤ 10 := by
    rw [PySem.ofString_length]
    exact li
  have e0 : Str.empty.length = 0 := rfl
  refine ⟨_, rfl, t1, rfl, ?_, _, rfl, .inr ⟨i, rfl, hi2, Str.ofString (toString i), rfl, ?_, t2, rfl, ?_, a, C, nm, _, rfl, ea, oex, exc, nam, kin, fun dx n ne => ?_⟩⟩
  · rw [Str.length_append, e0, sizeLine_eq]; omega
  · rw [Str.length_append, Str.length_append, e0, sizeLine_eq]; omega
  · rw [Str.length_append, Str.length_append, Str.length_append, e0, sizeLine_eq]; omega
  refine ⟨_, rfl, _, rfl, a, C, rfl, oex, rin, .inr ⟨dx, [("kind", .str nm)], upd_same, ?_, (show (1 : Nat) ≤ 900 by decide), ?_⟩⟩
  · rw [upd_ne ne]
    exact upd_same
  · exact q dx n ne
section
variable (K : PySem.W.Frag)
structure DefF15 (x : Str) (st : Stmt) (f : Addr) (fd : FuncData) : Prop where
  a : PySem.W.nsIn K mainGlobals x = some (some (.ref f))
  fn : Fun K x x st f fd
structure DefL15 (x : Str) (st : Stmt) (f c : Addr) (fd : FuncData) : Prop extends DefF15 K x st f fd where
  fl : FunL K x x st f c fd
end
section
variable {K : PySem.W.Frag}
theorem defF15_of {x : Str} {st : Stmt} {f : Addr} {oc : Value} {od an : Option Addr} {osl : Array (Option Value)} {kV doc pm cdv ct : Value} (a : PySem.W.nsIn K mainGlobals x = some (some (.ref f)))
    (l : K.lookup f = some ⟨oc, od, .func (PySem.W.fnOf x x (defArgs st) (defBody st) (defScope st) .none kV doc pm an cdv ct), osl⟩) (c : PySem.W.codeIn K cdv x = true) (k : PySem.W.keepIn K (.ref f) = true) : ∃ f fd, DefF15 K x st f fd := ⟨_, _, a, fun_mk l c k⟩
theorem defL15_of {x : Str} {st : Stmt} {f cc : Addr} {oc : Value} {od an : Option Addr} {osl : Array (Option Value)} {kV doc pm ct : Value} (a : PySem.W.nsIn K mainGlobals x = some (some (.ref f)))
    (l : K.lookup f = some ⟨oc, od, .func (PySem.W.fnOf x x (defArgs st) (defBody st) (defScope st) .none kV doc pm an (.ref cc) ct), osl⟩) (c : PySem.W.codeIn K (.ref cc) x = true) (k : PySem.W.keepIn K (.ref f) = true) : ∃ f fd, DefL15 K x st f cc fd := ⟨_, _, ⟨a, fun_mk l c k⟩, ⟨⟨_, _, _, _, _, _, _, _, rfl, l, c⟩⟩⟩
/-- the words' keys, as the dict holds them -/
def strKey15 : Value → Option Str
  | .str x _ => some x
  | _ => none
theorem keys_find {z : Str} : ∀ {es : List DictEntry} {ws : List Str}, es.map (fun e => strKey15 e.key) = ws.map some → (es.find? (fun e => e.key.isStr z)).isSome = decide (z ∈ ws) ∧ es.any (fun e => e.refKey) = false
  | [], [], _ => ⟨rfl, rfl⟩
  | [], _ :: _, h => by cases h
  | _ :: _, [], h => by cases h
  | e :: es, w :: ws, h => by
    obtain ⟨h1, h2⟩ := List.cons.inj h
    obtain ⟨i1, i2⟩ := keys_find (z := z) h2
    obtain ⟨tk, hk⟩ : ∃ tk, e.key = .str w tk := by
      have h1 : strKey15 e.key = some w := h1
      cases hv : e.key with
      | str x tk =>
        rw [hv] at h1
        cases h1
        exact ⟨tk, rfl⟩
      | _ =>
        rw [hv] at h1
        cases h1
    have hs : e.key.isStr z = decide (w = z) := by
      rw [PySem.W.isStr_of, hk]
      show (w == z) = _
      rw [Bool.eq_iff_iff]
      simp
    have hr : e.refKey = false := by
      unfold DictEntry.refKey
      rw [hk]
    refine ⟨?_, ?_⟩
    · rw [List.find?_cons, hs]
      by_cases hz : w = z
      · rw [decide_eq_true hz]
        simp [hz]
      · rw [decide_eq_false hz]
        show (es.find? _).isSome = _
        rw [i1]
        simp [Ne.symm hz]
    · rw [List.any_cons, i2, hr]
      rfl
theorem khas_of {w : World} {p : Addr} {es : Array DictEntry} {n : Nat} (d1 : K.lookup p = some ⟨.type "dict", none, .dict es n, #[]⟩) (d2 : PySem.W.KeysLit w.params es.toList) (d3 : (p == sysModules) = false) (d4 : es.toList.map (fun e => strKey15 e.key) = (words.map (·.1)).map some) (z : Str) :
    KHas K w p z (decide (∃ q ∈ words, q.1 = z)) := by
  obtain ⟨h1, h2⟩ := keys_find (z := z) d4
  refine ⟨es, n, (es.toList.find? (fun e => e.key.isStr z)).map (·.val), d1, d2, d3, ?_, ?_⟩
  · unfold PySem.W.nsIn
    rw [d1]
    show (match es.toList.find? (·.key.isStr z) with
      | some e => some (some e.val)
      | none => if es.toList.any (·.refKey) then none else some none) = _
    cases e : es.toList.find? (·.key.isStr z) with
    | some q => rfl
    | none =>
      show (if es.toList.any (·.refKey) then none else some none) = _
      rw [h2, if_neg Bool.false_ne_true]
      rfl
  · rw [Option.isSome_map, h1]
    rw [Bool.eq_iff_iff]
    simp
def kindB15 (K : PySem.W.Frag) (VE : Addr) (cls : Str → Addr) (x : Str) : Bool :=
  decide (PySem.W.nsIn K mainGlobals x = some (some (.ref (cls x)))) && decide (PySem.W.exmOne K (.ref (cls x)) (.ref VE) = some true) &&
  decide (PySem.W.findIn K (.ref (cls x)) "__getattribute__" = some (some (.builtin "BaseException.__getattribute__"))) && decide (PySem.W.findIn K (.ref (cls x)) "__getattr__" = some none) &&
  decide (PySem.W.subIn K (.ref (cls x)) (.type "BaseException") = some true) && decide (PySem.W.hasDictIn K (cls x) = true) && decide (PySem.W.findIn K (.ref (cls x)) "__class__" = some (some (.builtin "object.__class__"))) &&
  decide (PySem.W.specialIn K (.builtin "object.__class__") "__get__" = some (some (.builtin "getset_descriptor.__get__"))) && decide (PySem.W.takesIn K (.builtin "object.__class__") = some true) && decide (PySem.W.mroIn K (cls x) (.type "object") = some true) &&
  decide (PySem.W.kitOne K (.ref (cls x)) (.type "ValueError") = some true) && kindNames.all fun y => decide (PySem.W.kitOne K (.ref (cls x)) (.ref (cls y)) = some (decide (x = y)))
theorem kinds15_of {h : Heap} {mg : Str → Option Value} {VE : Addr} {cls : Str → Addr} (X : K.In h) (G : h.Ns mainGlobals mg) (ve : PySem.W.nsIn K mainGlobals "VolumeError" = some (some (.ref VE))) (b : kindNames.all (kindB15 K VE cls) = true) : (∀ R : Rt, R.K = K → R.mg = mg → Kinds R VE cls) ∧ ∀ x ∈ kindNames, ExcC K (cls x) := by
  have q : ∀ x ∈ kindNames, _ := List.all_eq_true.mp b
  simp only [kindB15, Bool.and_eq_true, decide_eq_true_eq] at q
  have exc : ∀ x ∈ kindNames, ExcC K (cls x) := fun x hx => by
    obtain ⟨⟨⟨⟨⟨⟨⟨⟨⟨⟨⟨q1, q2⟩, q3⟩, q4⟩, q5⟩, q6⟩, q7⟩, q8⟩, q9⟩, q10⟩, q11⟩, q12⟩ := q x hx
    exact ⟨q3, q4, q5, q6, q7, q8, q9, q10⟩
  refine ⟨fun R e1 e2 => ?_, exc⟩
  subst e1
  subst e2
  refine ⟨PySem.W.mg_of X G ve, fun x hx => PySem.W.mg_of X G ?_, fun x hx => ?_, exc, fun x hx y hy => ?_, fun x hx => ?_⟩ <;>
  · obtain ⟨⟨⟨⟨⟨⟨⟨⟨⟨⟨⟨q1, q2⟩, q3⟩, q4⟩, q5⟩, q6⟩, q7⟩, q8⟩, q9⟩, q10⟩, q11⟩, q12⟩ := q x hx
    first | exact q1 | exact q2 | exact q11 | exact of_decide_eq_true (List.all_eq_true.mp q12 y hy)
theorem oex15_of {C : Addr} {nm q : Str} {N : Addr} {bs bm : List Value} {sn sub ab col dd k0 k1 k2 k3 k5} (c : K.lookup C = some (excClassObj nm q C N bs bm true sn sub ab col dd k0 k1 k2 k3 k5 "ValueError.__new__")) (r : PySem.HandSPX.refsVE bm = true)
    (sa : PySem.W.findIn K (.ref C) "__setattr__" = some (some (.builtin "object.__setattr__"))) (ex : PySem.W.subIn K (.ref C) (.type "BaseException") = some true) (ty : PySem.W.typeIn K (.ref C) = some (.type "type")) (k : PySem.W.keepIn K (.ref C) = true) : OexC K C := ⟨⟨_, _, _, _, _, _, _, _, _, _, _, _, _, _, _, c, r⟩, sa, ex, ty, k⟩
theorem nam15_of {C : Addr} {nm : Str} {o : Obj} {tk : Tok} (rd : PySem.W.readsIn K C (.type "type") = true) (at_ : PySem.W.findCls K (.ref C) (.type "type") "__name__" = some (.get (.builtin "getset_descriptor.__get__") (.builtin "type.__name__") (.ref C) (.type "type")))
    (l : K.lookup C = some o) (s : o.slots[2]? = some (some (.str nm tk))) : NameC K C nm := ⟨rd, at_, o, tk, l, s⟩
/-- VolumeError's __init__ -/
theorem upF_of {VE : Addr} {x qual : Str} {st : Stmt} {f T : Addr} {oc : Value} {od an : Option Addr} {osl : Array (Option Value)} {kV doc pm cdv ct : Value} {o : Obj} {n : Nat} {tk : Tok}
    (i1 : PySem.W.findCls K (.ref VE) (.type "type") "__init__" = some (.val (.ref f)))
    (l : K.lookup f = some ⟨oc, od, .func (PySem.W.fnOf x qual (defArgs st) (defBody st) (defScope st) (.ref T) kV doc pm an cdv ct), osl⟩) (c : PySem.W.codeIn K cdv qual = true) (k : PySem.W.keepIn K (.ref f) = true) (lT : K.lookup T = some o) (oT : o.data = .seq #[.str "" tk] n) :
    ∃ f fd, FunD K x qual (defArgs st) (defBody st) (defScope st) [.str ""] [] f fd ∧ PySem.W.findCls K (.ref VE) (.type "type") "__init__" = some (.val (.ref f)) :=
  ⟨_, _, ⟨⟨_, _, _, _, _, _, _, _, _, _, rfl, l, c, .inr ⟨by simp, _, _, [.str "" tk], _, rfl, lT, oT, .cons ⟨tk, rfl⟩ .nil⟩, .inl rfl⟩, k⟩, i1⟩
/-- BadText's own __init__ -/
theorem rowF_of {C : Addr} {st : Stmt} {qual : Str} {f : Addr} {oc : Value} {od an : Option Addr} {osl : Array (Option Value)} {kV doc pm cdv ct : Value} (a : PySem.W.findIn K (.ref C) "__init__" = some (some (.ref f))) (ty : PySem.W.typeIn K (.ref f) = some (.type "function"))
    (l : K.lookup f = some ⟨oc, od, .func (PySem.W.fnOf "__init__" qual (defArgs st) (defBody st) (defScope st) .none kV doc pm an cdv ct), osl⟩) (c : PySem.W.codeIn K cdv qual = true) (k : PySem.W.keepIn K (.ref f) = true) :
    ∃ f fd, Fun K "__init__" qual st f fd ∧ PySem.W.findIn K (.ref C) "__init__" = some (some (.ref f)) ∧ PySem.W.typeIn K (.ref f) = some (.type "function") := ⟨_, _, fun_mk l c k, a, ty⟩
end
theorem bindsI15 {K : PySem.W.Frag} {f : Addr} {fd : FuncData} (D : FunD K "__init__" "VolumeError.__init__" (defArgs (inClass15 (top15 1) 0)) (defBody (inClass15 (top15 1) 0)) (defScope (inClass15 (top15 1) 0)) [.str ""] [] f fd) : Binds K fd ["self", "why"] [] := by
  obtain ⟨ds, hv, hb⟩ := FunD.binds1 (ps := ["self", "why"]) D 2 1 (by simp) rfl fun T kV doc pm an cdv ct us its hu hi => match us, hu, its, hi with | [_, _], _, [_], _ => ⟨_, rfl, by first | kernel_rfl | (simp [List.zip, List.lookup]; done) | (simp [List.zip, List.lookup]; rfl)⟩
  have : ds = [] := by
    cases hv
    rfl
  subst this
  exact hb
theorem binds15 {K : PySem.W.Frag} {f : Addr} {fd : FuncData} (D : DefF15 K "law" (top15 28) f fd) (s : Shared) (u : Value) : BindsTo s fd ⟨[u], []⟩ [("_law_script", u)] := by
  obtain ⟨oc, od, kV, doc, pm, an, cdv, ct, osl, rfl, _⟩ := D.fn.ex
  exact .of_eq rfl
end Zw
set_option Elab.async false
set_option linter.all false
set_option maxRecDepth 100000
set_option maxHeartbeats 4000000
namespace Zw
open PySem PySem.Spec PyProof.Rows L2
open Classical in
theorem law_start15 {K : PySem.W.Frag} {ta : List (Addr × Str)} {H : Hp} {a : Addr} {ns : List Int} (hl : ns.length ≤ sizeLine) (ht : ∀ p ∈ ta, H p.1 = some (.tbl #[])) (hs : SqL K H a (ns.map V.int)) : spLaw15 K ta [.ref a] H (fun v _ => v = .bl true) fun _ _ _ => False := by
  let h : Hp := fun b => if H b = some (.tbl #[]) then H b else none
  have hh : ∀ b o, h b = some o → H b = some o ∧ H b = some (.tbl #[]) := fun b o e => by
    simp only [h] at e
    split at e
    · exact ⟨e, by assumption⟩
    · cases e
  have th : tabsOk ta h := fun p hp => by
    refine ⟨#[], ?_, (by trivial), fun pos cv e => ?_⟩
    · simp only [h, ht p hp, if_pos]
    · exact absurd e (by intro z; cases z)
  have one : ∀ o, H a = some o → o ≠ .tbl #[] → SL (tabsOk ta :: [pt a o]) H := fun o e n => by
    refine ⟨h, fun b => if b = a then H a else none, fun b u q => (hh b u q).1, fun b u q => ?_, fun b u v q1 q2 => ?_, th, SL.one (by show (if a = a then H a else none) = some o; rw [if_pos rfl]; exact e)⟩
    · have q : (if b = a then H a else none) = some u := q
      split at q
      · rename_i z
        rw [z]
        exact q
      · cases q
    · have q2 : (if b = a then H a else none) = some v := q2
      split at q2
      · rename_i z
        rw [z] at q1
        have := (hh a u q1).2
        rw [e] at this
        cases this
        exact absurd rfl n
      · cases q2
  rcases hs with (hs | ⟨o, hs⟩) | hs
  · exact ⟨a, ns, _, rfl, hl, one _ hs (fun z => by cases z), fun H' y => .inl (.inl (SL.get (.head _) y)), fun _ => rfl⟩
  · exact ⟨a, ns, _, rfl, hl, one _ hs (fun z => by cases z), fun H' y => .inl (.inr ⟨o, SL.get (.head _) y⟩), fun _ => rfl⟩
  · refine ⟨a, ns, [], rfl, hl, ⟨h, fun _ => none, fun b o e => (hh b o e).1, (fun _ _ e => by cases e), (fun _ _ _ _ e => by cases e), th, trivial⟩, fun H' _ => .inr hs, fun _ => rfl⟩
theorem all15 {l : PySem.W.OpenLaw} {w : World} {K : PySem.W.Frag} {h : Heap} {mg : Str → Option Value} {fa : Addr} (X : K.In h) (G : h.Ns mainGlobals mg) (hfa : mg "law" = some (.ref fa))
    {f_is_figures : Addr} {d_is_figures : FuncData} (D_is_figures : DefF15 K "is_figures" (top15 16) f_is_figures d_is_figures)
    {f_read_row : Addr} {d_read_row : FuncData} (D_read_row : DefF15 K "read_row" (top15 17) f_read_row d_read_row)
    {f_read : Addr} {d_read : FuncData} (D_read : DefF15 K "read" (top15 18) f_read d_read)
    {f_begun : Addr} {d_begun : FuncData} (D_begun : DefF15 K "_law_begun" (top15 20) f_begun d_begun)
    {f_take : Addr} {d_take : FuncData} (D_take : DefF15 K "_law_take" (top15 21) f_take d_take)
    {f_alike : Addr} {d_alike : FuncData} (D_alike : DefF15 K "_law_alike" (top15 22) f_alike d_alike)
    {f_told : Addr} {d_told : FuncData} (D_told : DefF15 K "_law_told" (top15 23) f_told d_told)
    {f_anystep : Addr} {d_anystep : FuncData} (D_anystep : DefF15 K "_law_anystep" (top15 25) f_anystep d_anystep)
    {f_step : Addr} {d_step : FuncData} (D_step : DefF15 K "_law_step" (top15 26) f_step d_step)
    {f_spoilt : Addr} {d_spoilt : FuncData} (D_spoilt : DefF15 K "_law_spoilt" (top15 27) f_spoilt d_spoilt)
    {f_law c_law P_law : Addr} {d_law : FuncData} (D_law : DefL15 K "law" (top15 28) f_law c_law d_law)
    {VE fI fB pw : Addr} {cls : Str → Addr} {d_I d_B : FuncData} (D_ID : FunD K "__init__" "VolumeError.__init__" (defArgs (inClass15 (top15 1) 0)) (defBody (inClass15 (top15 1) 0)) (defScope (inClass15 (top15 1) 0)) [.str ""] [] fI d_I)
    (vV : PySem.W.findCls K (.type "ValueError") (.type "type") "__init__" = some (.val (.builtin "ValueError.__init__"))) (vI : PySem.W.findCls K (.ref VE) (.type "type") "__init__" = some (.val (.ref fI)))
    (vE : PySem.W.nsIn K mainGlobals "VolumeError" = some (some (.ref VE))) (vr : PySem.W.readsIn K VE (.type "type") = true) (vg : PySem.W.specialIn K (.ref VE) "__getattribute__" = some (some (.builtin "type.__getattribute__")))
    (D_B : Fun K "__init__" "BadText.__init__" (inClass15 (top15 11) 0) fB d_B) (iB : PySem.W.findIn K (.ref (cls "BadText")) "__init__" = some (some (.ref fB))) (tB : PySem.W.typeIn K (.ref fB) = some (.type "function"))
    (oB : OexC K (cls "BadText")) (nB : NameC K (cls "BadText") "BadText") (kB : PySem.W.findIn K (.ref (cls "BadText")) "kind" = some none) (rB : PySem.W.findIn K (.ref (cls "BadText")) "row" = some none)
    (KN : ∀ R : Rt, R.K = K → R.mg = mg → Kinds R VE cls)
    {t1 t2 : Tok} (m1 : PySem.W.nsIn K mainGlobals "MOST_FIGURES" = some (some (.int 4 t1))) (m2 : PySem.W.nsIn K mainGlobals "FIGURES" = some (some (.str figures t2))) (m3 : PySem.W.nsIn K mainGlobals "WORDS" = some (some (.ref pw)))
    (dW : ∀ z, KHas K w pw z (decide (∃ q ∈ words, q.1 = z))) (dV : ∀ p ∈ words, KDct K w pw p.1 (.int (p.2 : Nat)))
    (z : ∀ x ∈ bltNames, PySem.W.nsIn K mainGlobals x = some none)
    : fa = f_law ∧ ∀ base : Heap, K.In base → base.Ns mainGlobals mg → LamX.TabB base mg c_law P_law → FnOk l.prog w K mg base (L2.CX l.prog w) 8 f_law d_law ["_law_script"] (spLaw15 K [(P_law, lamQ "law")]) := by
  have e := hfa.symm.trans (PySem.W.mg_of X G D_law.a)
  refine ⟨by cases e; rfl, fun base KB GB TB => ?_⟩
  have blt : ∀ x ∈ bltNames, mg x = none := fun x hx => PySem.W.mg_none_of X G (z x hx)
  have b_is_figures := D_is_figures.fn.binds (ps := ["text"]) fun _ _ _ _ _ _ us hl => match us, hl with | [_], _ => rfl
  have b_read_row := D_read_row.fn.binds (ps := ["row", "line"]) fun _ _ _ _ _ _ us hl => match us, hl with | [_, _], _ => rfl
  have b_read := D_read.fn.binds (ps := ["text"]) fun _ _ _ _ _ _ us hl => match us, hl with | [_], _ => rfl
  have b_begun := D_begun.fn.binds (ps := ["_law_script"]) fun _ _ _ _ _ _ us hl => match us, hl with | [_], _ => rfl
  have b_take := D_take.fn.binds (ps := ["_law_box", "_law_many"]) fun _ _ _ _ _ _ us hl => match us, hl with | [_, _], _ => rfl
  have b_alike := D_alike.fn.binds (ps := ["_law_found", "_law_due"]) fun _ _ _ _ _ _ us hl => match us, hl with | [_, _], _ => rfl
  have b_told := D_told.fn.binds (ps := ["_law_work"]) fun _ _ _ _ _ _ us hl => match us, hl with | [_], _ => rfl
  have b_anystep := D_anystep.fn.binds (ps := ["_law_box"]) fun _ _ _ _ _ _ us hl => match us, hl with | [_], _ => rfl
  have b_step := D_step.fn.binds (ps := ["_law_row"]) fun _ _ _ _ _ _ us hl => match us, hl with | [_], _ => rfl
  have b_spoilt := D_spoilt.fn.binds (ps := ["_law_box", "_law_text"]) fun _ _ _ _ _ _ us hl => match us, hl with | [_, _], _ => rfl
  have b_B := D_B.binds (ps := ["self", "row"]) fun _ _ _ _ _ _ us hl => match us, hl with | [_, _], _ => rfl
  have b_I := bindsI15 D_ID
  have A_I : FnOk l.prog w K mg base (L2.CX l.prog w) 1 fI d_I ["self", "why"] (spErrInit K) := fn_errInit D_ID (scopeB_ok (by decide +kernel)) rfl (blt _ (by decide +kernel)) rfl (fun env => ⟨_, rfl⟩) vV
  have UP : UpC l.prog w K mg base VE := ⟨PySem.W.mg_of X G vE, ⟨vr, vg⟩, fI, vI, D_ID.kp, CallOk.fn (R := ⟨l.prog, w, K, mg, base⟩) A_I b_I (by decide)⟩
  have A_B : FnOk l.prog w K mg base (L2.CX l.prog w) 2 fB d_B ["self", "row"] (spRowInit K) := fn_rowInit2 D_B (scopeB_ok (by decide +kernel)) rfl UP rfl (by decide +kernel) (fun env => ⟨_, rfl⟩)
  have RB : RowOk l.prog w K mg base (cls "BadText") "BadText" := ⟨oB, (KN ⟨l.prog, w, K, mg, base⟩ rfl rfl).exc _ (by decide +kernel), nB, kB, rB, fB, d_B, iB, tB, A_B, b_B⟩
  have mB : mg "BadText" = some (.ref (cls "BadText")) := (KN ⟨l.prog, w, K, mg, base⟩ rfl rfl).mg _ (by decide +kernel)
  have A_begun : FnOk l.prog w K mg base (L2.CX l.prog w) 1 f_begun d_begun ["_law_script"] (spBegun K) := fn_begun (R := ⟨l.prog, w, K, mg, base⟩) (k := 0) D_begun.fn blt s15_begun c15_begun
  have H_begun : ∀ k, 1 ≤ k → Has ⟨l.prog, w, K, mg, base⟩ k "_law_begun" f_begun (spBegun K) := fun k hk => ⟨PySem.W.mg_of X G D_begun.a, D_begun.fn.kp, CallOk.fn (R := ⟨l.prog, w, K, mg, base⟩) A_begun b_begun hk⟩
  have A_take : FnOk l.prog w K mg base (L2.CX l.prog w) 1 f_take d_take ["_law_box", "_law_many"] (spTake) := fn_take (R := ⟨l.prog, w, K, mg, base⟩) (k := 0) D_take.fn blt s15_take c15_take
  have H_take : ∀ k, 1 ≤ k → Has ⟨l.prog, w, K, mg, base⟩ k "_law_take" f_take (spTake) := fun k hk => ⟨PySem.W.mg_of X G D_take.a, D_take.fn.kp, CallOk.fn (R := ⟨l.prog, w, K, mg, base⟩) A_take b_take hk⟩
  have A_alike : FnOk l.prog w K mg base (L2.CX l.prog w) 3 f_alike d_alike ["_law_found", "_law_due"] (spAlike K 2) := fn_alike (R := ⟨l.prog, w, K, mg, base⟩) D_alike.fn b_alike (PySem.W.mg_of X G D_alike.a) D_alike.fn.kp blt s15_alike c15_alike 2
  have H_alike : ∀ k, 3 ≤ k → Has ⟨l.prog, w, K, mg, base⟩ k "_law_alike" f_alike (spAlike K 2) := fun k hk => ⟨PySem.W.mg_of X G D_alike.a, D_alike.fn.kp, CallOk.fn (R := ⟨l.prog, w, K, mg, base⟩) A_alike b_alike hk⟩
  have A_told : FnOk l.prog w K mg base (L2.CX l.prog w) 7 f_told d_told ["_law_work"] (spTold ⟨l.prog, w, K, mg, base⟩ 6 cls) := fn_told (R := ⟨l.prog, w, K, mg, base⟩) (k := 6) D_told.fn (KN _ rfl rfl) rB blt s15_told c15_told
  have A_anystep : FnOk l.prog w K mg base (L2.CX l.prog w) 2 f_anystep d_anystep ["_law_box"] (spAny) := fn_wp (R := ⟨l.prog, w, K, mg, base⟩) (k := 1) D_anystep.fn s15_anystep c15_anystep blt (fun vs H Q E h => by obtain ⟨_, _, rfl, _⟩ := h; rfl) fun vs H Q E h => w_anystep (R := ⟨⟨l.prog, w, K, mg, base⟩, [], fun _ _ _ => False, none⟩) (H_take 1 (by decide)) h
  have H_anystep : ∀ k, 2 ≤ k → Has ⟨l.prog, w, K, mg, base⟩ k "_law_anystep" f_anystep (spAny) := fun k hk => ⟨PySem.W.mg_of X G D_anystep.a, D_anystep.fn.kp, CallOk.fn (R := ⟨l.prog, w, K, mg, base⟩) A_anystep b_anystep hk⟩
  have A_step : FnOk l.prog w K mg base (L2.CX l.prog w) 1 f_step d_step ["_law_row"] (spStepL) := fn_wp (R := ⟨l.prog, w, K, mg, base⟩) (k := 0) D_step.fn s15_step c15_step blt (fun vs H Q E h => by obtain ⟨_, _, rfl, _⟩ := h; rfl) fun vs H Q E h => w_stepL (R := ⟨⟨l.prog, w, K, mg, base⟩, [], fun _ _ _ => False, none⟩) h
  have H_step : ∀ k, 1 ≤ k → Has ⟨l.prog, w, K, mg, base⟩ k "_law_step" f_step (spStepL) := fun k hk => ⟨PySem.W.mg_of X G D_step.a, D_step.fn.kp, CallOk.fn (R := ⟨l.prog, w, K, mg, base⟩) A_step b_step hk⟩
  have A_spoilt : FnOk l.prog w K mg base (L2.CX l.prog w) 2 f_spoilt d_spoilt ["_law_box", "_law_text"] (spSpoilt) := fn_wp (R := ⟨l.prog, w, K, mg, base⟩) (k := 1) D_spoilt.fn s15_spoilt c15_spoilt blt (fun vs H Q E h => by obtain ⟨_, _, _, rfl, _⟩ := h; rfl) fun vs H Q E h => w_spoilt (R := ⟨⟨l.prog, w, K, mg, base⟩, [], fun _ _ _ => False, none⟩) (H_take 1 (by decide)) h
  have H_spoilt : ∀ k, 2 ≤ k → Has ⟨l.prog, w, K, mg, base⟩ k "_law_spoilt" f_spoilt (spSpoilt) := fun k hk => ⟨PySem.W.mg_of X G D_spoilt.a, D_spoilt.fn.kp, CallOk.fn (R := ⟨l.prog, w, K, mg, base⟩) A_spoilt b_spoilt hk⟩
  have A_is_figures : FnOk l.prog w K mg base (L2.CX l.prog w) 1 f_is_figures d_is_figures ["text"] (spFigX) := fn_wp (R := ⟨l.prog, w, K, mg, base⟩) (k := 0) D_is_figures.fn s15_is_figures c15_is_figures blt (fun vs H Q E h => by obtain ⟨_, _, rfl, _⟩ := h; rfl) fun vs H Q E h => w_is_figuresX (R := ⟨⟨l.prog, w, K, mg, base⟩, [], fun _ _ _ => False, none⟩) ⟨_, PySem.W.mg_of X G m1⟩ ⟨_, PySem.W.mg_of X G m2⟩ h
  have H_is_figures : ∀ k, 1 ≤ k → Has ⟨l.prog, w, K, mg, base⟩ k "is_figures" f_is_figures (spFigX) := fun k hk => ⟨PySem.W.mg_of X G D_is_figures.a, D_is_figures.fn.kp, CallOk.fn (R := ⟨l.prog, w, K, mg, base⟩) A_is_figures b_is_figures hk⟩
  have A_read_row : FnOk l.prog w K mg base (L2.CX l.prog w) 4 f_read_row d_read_row ["row", "line"] (spRowX (cls "BadText")) := fn_wp (R := ⟨l.prog, w, K, mg, base⟩) (k := 3) D_read_row.fn s15_read_row c15_read_row blt (fun vs H Q E h => by obtain ⟨_, _, _, rfl, _⟩ := h; rfl) fun vs H Q E h => w_read_rowX (R := ⟨⟨l.prog, w, K, mg, base⟩, [], fun _ _ _ => False, none⟩) (H_is_figures 3 (by decide)) (pw := pw) ⟨PySem.W.mg_of X G m3, dW, dV⟩ mB RB (by decide) h
  have H_read_row : ∀ k, 4 ≤ k → Has ⟨l.prog, w, K, mg, base⟩ k "read_row" f_read_row (spRowX (cls "BadText")) := fun k hk => ⟨PySem.W.mg_of X G D_read_row.a, D_read_row.fn.kp, CallOk.fn (R := ⟨l.prog, w, K, mg, base⟩) A_read_row b_read_row hk⟩
  have A_read : FnOk l.prog w K mg base (L2.CX l.prog w) 5 f_read d_read ["text"] (spReadX (cls "BadText")) := fn_wp (R := ⟨l.prog, w, K, mg, base⟩) (k := 4) D_read.fn s15_read c15_read blt (fun vs H Q E h => by obtain ⟨_, _, rfl, _⟩ := h; rfl) fun vs H Q E h => w_readX (R := ⟨⟨l.prog, w, K, mg, base⟩, [], fun _ _ _ => False, none⟩) (H_read_row 4 (by decide)) h
  have H_read : ∀ k, 5 ≤ k → Has ⟨l.prog, w, K, mg, base⟩ k "read" f_read (spReadX (cls "BadText")) := fun k hk => ⟨PySem.W.mg_of X G D_read.a, D_read.fn.kp, CallOk.fn (R := ⟨l.prog, w, K, mg, base⟩) A_read b_read hk⟩
  have NT : ∀ k, 7 ≤ k → HasZ ⟨l.prog, w, K, mg, base⟩ k "_law_told" f_told (spTold ⟨l.prog, w, K, mg, base⟩ 6 cls) := fun k hk => ⟨PySem.W.mg_of X G D_told.a, D_told.fn.kp, CallEnv.fn (R := ⟨l.prog, w, K, mg, base⟩) A_told b_told hk⟩
  exact fn_wpL (R := ⟨l.prog, w, K, mg, base⟩) (k := 7) (ta := [(P_law, lamQ "law")]) D_law.fl s15_law c15_law blt TB (by simp) (fun p hp _ => by rw [List.mem_singleton.mp hp]) (fun vs H Q E h => by obtain ⟨_, _, _, rfl, _⟩ := h; rfl) fun M vs H Q E h => w_law15 (R := ⟨⟨l.prog, w, K, mg, base⟩, [(P_law, lamQ "law")], M, none⟩) (j := 5) (H_begun 7 (by decide)) (H_take 7 (by decide)) (H_anystep 7 (by decide)) (H_alike 7 (by decide)) (H_step 7 (by decide)) (H_spoilt 7 (by decide)) (H_read 5 (by decide)) (NT 7 (by decide)) h
end Zw
set_option Elab.async false
set_option linter.all false
theorem Zw.int15_of {K : PySem.W.Frag} {p : PySem.Addr} {x : PySem.Str} {i : Int} {t : PySem.Tok} (a : PySem.W.nsIn K p x = some (some (.int i t))) : ∃ t, PySem.W.nsIn K p x = some (some (.int i t)) := ⟨t, a⟩
theorem Zw.str15_of {K : PySem.W.Frag} {p : PySem.Addr} {x i : PySem.Str} {t : PySem.Tok} (a : PySem.W.nsIn K p x = some (some (.str i t))) : ∃ t, PySem.W.nsIn K p x = some (some (.str i t)) := ⟨t, a⟩
theorem Zw.dct15_of {K : PySem.W.Frag} {w : PySem.World} {p : PySem.Addr} {es : Array PySem.DictEntry} {en : Nat} (d1 : List.lookup p K = some (⟨.type "dict", none, .dict es en, #[]⟩ : PySem.Obj)) (d2 : PySem.W.KeysLit w.params es.toList) (d4 : es.toList.map (fun e => Zw.strKey15 e.key) = (Zw.words.map (·.1)).map some) :
    ∃ es en, List.lookup p K = some (⟨.type "dict", none, .dict es en, #[]⟩ : PySem.Obj) ∧ PySem.W.KeysLit w.params es.toList ∧ es.toList.map (fun e => Zw.strKey15 e.key) = (Zw.words.map (·.1)).map some := ⟨es, en, d1, d2, d4⟩
def Zw.clsOf15 (x : PySem.Str) : PySem.Addr := if x = "BadNumber" then 81 else if x = "BadSizes" then 45 else if x = "BadText" then 160 else if x = "BadVolume" then 105 else if x = "Full" then 129 else if x = "Lost" then 141 else if x = "NoBlock" then 69 else if x = "NoDisk" then 57 else if x = "NoVolume" then 117 else 93
open PySem PySem.W PyProof.Rows
set_option maxRecDepth 100000 in
set_option maxHeartbeats 0 in
theorem PySem.Challenge.cw_volumehall_k15_texts_of_no_steps_holds : PySem.Challenge.rw_volumehall_k15_texts_of_no_steps.Holds := by
  w_on; o_law; k_head; (case hw => w_witness2)
  k_fill
  refine LamX.walk_ofTs (l := PySem.Challenge.rw_volumehall_k15_texts_of_no_steps) (n := 63) (k := 8) (x := "_law_script") (CX := fun w => L2.CX PySem.Challenge.rw_volumehall_k15_texts_of_no_steps.prog w) rfl (by decide) rfl ⟨rfl, by decide, by decide⟩ (fun w h Y => PySem.W.km_in_of Y) ?F ?C
  case C =>
    intro w H s e s' z
    obtain ⟨_, _, _, _, _, _, _, _, _, _, _, _, z⟩ := z
    exact z
  case F =>
    intro w mg fa h Y KX G hmg
    have hmg : mg "law" = some (.ref fa) := hmg
    have e_is_figures : ∃ f fd, Zw.DefF15 (PySem.Challenge.cw_volumehall_k15_texts_of_no_steps_holds.heap_39 w.params) "is_figures" (Zw.top15 16) f fd := by
      refine' Zw.defF15_of ?zz1_0 ?zz1_1 ?zz1_2 ?zz1_3
      (case zz1_0 => (first | k_is | rfl | kernel_rfl | decide +kernel))
      (case zz1_1 => (first | k_is | rfl | kernel_rfl | decide +kernel))
      (case zz1_2 => (first | k_is | rfl | kernel_rfl | decide +kernel))
      (case zz1_3 => (first | k_is | rfl | kernel_rfl | decide +kernel))
    have e_read_row : ∃ f fd, Zw.DefF15 (PySem.Challenge.cw_volumehall_k15_texts_of_no_steps_holds.heap_39 w.params) "read_row" (Zw.top15 17) f fd := by
      refine' Zw.defF15_of ?zz2_0 ?zz2_1 ?zz2_2 ?zz2_3
      (case zz2_0 => (first | k_is | rfl | kernel_rfl | decide +kernel))
      (case zz2_1 => (first | k_is | rfl | kernel_rfl | decide +kernel))
      (case zz2_2 => (first | k_is | rfl | kernel_rfl | decide +kernel))
      (case zz2_3 => (first | k_is | rfl | kernel_rfl | decide +kernel))
    have e_read : ∃ f fd, Zw.DefF15 (PySem.Challenge.cw_volumehall_k15_texts_of_no_steps_holds.heap_39 w.params) "read" (Zw.top15 18) f fd := by
      refine' Zw.defF15_of ?zz3_0 ?zz3_1 ?zz3_2 ?zz3_3
      (case zz3_0 => (first | k_is | rfl | kernel_rfl | decide +kernel))
      (case zz3_1 => (first | k_is | rfl | kernel_rfl | decide +kernel))
      (case zz3_2 => (first | k_is | rfl | kernel_rfl | decide +kernel))
      (case zz3_3 => (first | k_is | rfl | kernel_rfl | decide +kernel))
    have e_begun : ∃ f fd, Zw.DefF15 (PySem.Challenge.cw_volumehall_k15_texts_of_no_steps_holds.heap_39 w.params) "_law_begun" (Zw.top15 20) f fd := by
      refine' Zw.defF15_of ?zz4_0 ?zz4_1 ?zz4_2 ?zz4_3
      (case zz4_0 => (first | k_is | rfl | kernel_rfl | decide +kernel))
      (case zz4_1 => (first | k_is | rfl | kernel_rfl | decide +kernel))
      (case zz4_2 => (first | k_is | rfl | kernel_rfl | decide +kernel))
      (case zz4_3 => (first | k_is | rfl | kernel_rfl | decide +kernel))
    have e_take : ∃ f fd, Zw.DefF15 (PySem.Challenge.cw_volumehall_k15_texts_of_no_steps_holds.heap_39 w.params) "_law_take" (Zw.top15 21) f fd := by
      refine' Zw.defF15_of ?zz5_0 ?zz5_1 ?zz5_2 ?zz5_3
      (case zz5_0 => (first | k_is | rfl | kernel_rfl | decide +kernel))
      (case zz5_1 => (first | k_is | rfl | kernel_rfl | decide +kernel))
      (case zz5_2 => (first | k_is | rfl | kernel_rfl | decide +kernel))
      (case zz5_3 => (first | k_is | rfl | kernel_rfl | decide +kernel))
    have e_alike : ∃ f fd, Zw.DefF15 (PySem.Challenge.cw_volumehall_k15_texts_of_no_steps_holds.heap_39 w.params) "_law_alike" (Zw.top15 22) f fd := by
      refine' Zw.defF15_of ?zz6_0 ?zz6_1 ?zz6_2 ?zz6_3
      (case zz6_0 => (first | k_is | rfl | kernel_rfl | decide +kernel))
      (case zz6_1 => (first | k_is | rfl | kernel_rfl | decide +kernel))
      (case zz6_2 => (first | k_is | rfl | kernel_rfl | decide +kernel))
      (case zz6_3 => (first | k_is | rfl | kernel_rfl | decide +kernel))
    have e_told : ∃ f fd, Zw.DefF15 (PySem.Challenge.cw_volumehall_k15_texts_of_no_steps_holds.heap_39 w.params) "_law_told" (Zw.top15 23) f fd := by
      refine' Zw.defF15_of ?zz7_0 ?zz7_1 ?zz7_2 ?zz7_3
      (case zz7_0 => (first | k_is | rfl | kernel_rfl | decide +kernel))
      (case zz7_1 => (first | k_is | rfl | kernel_rfl | decide +kernel))
      (case zz7_2 => (first | k_is | rfl | kernel_rfl | decide +kernel))
      (case zz7_3 => (first | k_is | rfl | kernel_rfl | decide +kernel))
    have e_anystep : ∃ f fd, Zw.DefF15 (PySem.Challenge.cw_volumehall_k15_texts_of_no_steps_holds.heap_39 w.params) "_law_anystep" (Zw.top15 25) f fd := by
      refine' Zw.defF15_of ?zz8_0 ?zz8_1 ?zz8_2 ?zz8_3
      (case zz8_0 => (first | k_is | rfl | kernel_rfl | decide +kernel))
      (case zz8_1 => (first | k_is | rfl | kernel_rfl | decide +kernel))
      (case zz8_2 => (first | k_is | rfl | kernel_rfl | decide +kernel))
      (case zz8_3 => (first | k_is | rfl | kernel_rfl | decide +kernel))
    have e_step : ∃ f fd, Zw.DefF15 (PySem.Challenge.cw_volumehall_k15_texts_of_no_steps_holds.heap_39 w.params) "_law_step" (Zw.top15 26) f fd := by
      refine' Zw.defF15_of ?zz9_0 ?zz9_1 ?zz9_2 ?zz9_3
      (case zz9_0 => (first | k_is | rfl | kernel_rfl | decide +kernel))
      (case zz9_1 => (first | k_is | rfl | kernel_rfl | decide +kernel))
      (case zz9_2 => (first | k_is | rfl | kernel_rfl | decide +kernel))
      (case zz9_3 => (first | k_is | rfl | kernel_rfl | decide +kernel))
    have e_spoilt : ∃ f fd, Zw.DefF15 (PySem.Challenge.cw_volumehall_k15_texts_of_no_steps_holds.heap_39 w.params) "_law_spoilt" (Zw.top15 27) f fd := by
      refine' Zw.defF15_of ?zz10_0 ?zz10_1 ?zz10_2 ?zz10_3
      (case zz10_0 => (first | k_is | rfl | kernel_rfl | decide +kernel))
      (case zz10_1 => (first | k_is | rfl | kernel_rfl | decide +kernel))
      (case zz10_2 => (first | k_is | rfl | kernel_rfl | decide +kernel))
      (case zz10_3 => (first | k_is | rfl | kernel_rfl | decide +kernel))
    have e_law : ∃ f fd, Zw.DefL15 (PySem.Challenge.cw_volumehall_k15_texts_of_no_steps_holds.heap_39 w.params) "law" (Zw.top15 28) f 235 fd := by
      refine' Zw.defL15_of ?zz11_0 ?zz11_1 ?zz11_2 ?zz11_3
      (case zz11_0 => (first | k_is | rfl | kernel_rfl | decide +kernel))
      (case zz11_1 => (first | k_is | rfl | kernel_rfl | decide +kernel))
      (case zz11_2 => (first | k_is | rfl | kernel_rfl | decide +kernel))
      (case zz11_3 => (first | k_is | rfl | kernel_rfl | decide +kernel))
    have kb : (Zw.kindNames.all (Zw.kindB15 (PySem.Challenge.cw_volumehall_k15_texts_of_no_steps_holds.heap_39 w.params) 32 Zw.clsOf15)) = true := by kernel_rfl
    have vE : PySem.W.nsIn (PySem.Challenge.cw_volumehall_k15_texts_of_no_steps_holds.heap_39 w.params) mainGlobals "VolumeError" = some (some (.ref 32)) := by (first | k_is | rfl | kernel_rfl | decide +kernel)
    obtain ⟨KN, EX⟩ := Zw.kinds15_of (VE := 32) (cls := Zw.clsOf15) KX G vE kb
    have oB : L2.OexC (PySem.Challenge.cw_volumehall_k15_texts_of_no_steps_holds.heap_39 w.params) 160 := by
      refine' Zw.oex15_of ?zz12_0 ?zz12_1 ?zz12_2 ?zz12_3 ?zz12_4 ?zz12_5
      (case zz12_0 => (first | k_is | rfl | kernel_rfl | decide +kernel))
      (case zz12_1 => (first | k_is | rfl | kernel_rfl | decide +kernel))
      (case zz12_2 => (first | k_is | rfl | kernel_rfl | decide +kernel))
      (case zz12_3 => (first | k_is | rfl | kernel_rfl | decide +kernel))
      (case zz12_4 => (first | k_is | rfl | kernel_rfl | decide +kernel))
      (case zz12_5 => (first | k_is | rfl | kernel_rfl | decide +kernel))
    have nB : Zw.NameC (PySem.Challenge.cw_volumehall_k15_texts_of_no_steps_holds.heap_39 w.params) 160 "BadText" := by
      refine' Zw.nam15_of ?zz13_0 ?zz13_1 ?zz13_2 ?zz13_3
      (case zz13_0 => (first | k_is | rfl | kernel_rfl | decide +kernel))
      (case zz13_1 => (first | k_is | rfl | kernel_rfl | decide +kernel))
      (case zz13_2 => (first | k_is | rfl | kernel_rfl | decide +kernel))
      (case zz13_3 => (first | k_is | rfl | kernel_rfl | decide +kernel))
    have kB : PySem.W.findIn (PySem.Challenge.cw_volumehall_k15_texts_of_no_steps_holds.heap_39 w.params) (.ref 160) "kind" = some none := by (first | k_is | rfl | kernel_rfl | decide +kernel)
    have rB : PySem.W.findIn (PySem.Challenge.cw_volumehall_k15_texts_of_no_steps_holds.heap_39 w.params) (.ref 160) "row" = some none := by (first | k_is | rfl | kernel_rfl | decide +kernel)
    have e_I : ∃ f fd, L2.FunD (PySem.Challenge.cw_volumehall_k15_texts_of_no_steps_holds.heap_39 w.params) "__init__" "VolumeError.__init__" (L2.defArgs (Zw.inClass15 (Zw.top15 1) 0)) (L2.defBody (Zw.inClass15 (Zw.top15 1) 0)) (L2.defScope (Zw.inClass15 (Zw.top15 1) 0)) [.str ""] [] f fd ∧ PySem.W.findCls (PySem.Challenge.cw_volumehall_k15_texts_of_no_steps_holds.heap_39 w.params) (.ref 32) (.type "type") "__init__" = some (.val (.ref f)) := by
      refine' Zw.upF_of (st := Zw.inClass15 (Zw.top15 1) 0) ?zz14_0 ?zz14_1 ?zz14_2 ?zz14_3 ?zz14_4 ?zz14_5
      (case zz14_0 => (first | k_is | rfl | kernel_rfl | decide +kernel))
      (case zz14_1 => (first | k_is | rfl | kernel_rfl | decide +kernel))
      (case zz14_2 => (first | k_is | rfl | kernel_rfl | decide +kernel))
      (case zz14_3 => (first | k_is | rfl | kernel_rfl | decide +kernel))
      (case zz14_4 => (first | k_is | rfl | kernel_rfl | decide +kernel))
      (case zz14_5 => (first | k_is | rfl | kernel_rfl | decide +kernel))
    have e_B : ∃ f fd, L2.Fun (PySem.Challenge.cw_volumehall_k15_texts_of_no_steps_holds.heap_39 w.params) "__init__" "BadText.__init__" (Zw.inClass15 (Zw.top15 11) 0) f fd ∧ PySem.W.findIn (PySem.Challenge.cw_volumehall_k15_texts_of_no_steps_holds.heap_39 w.params) (.ref 160) "__init__" = some (some (.ref f)) ∧ PySem.W.typeIn (PySem.Challenge.cw_volumehall_k15_texts_of_no_steps_holds.heap_39 w.params) (.ref f) = some (.type "function") := by
      refine' Zw.rowF_of (st := Zw.inClass15 (Zw.top15 11) 0) ?zz15_0 ?zz15_1 ?zz15_2 ?zz15_3 ?zz15_4
      (case zz15_0 => (first | k_is | rfl | kernel_rfl | decide +kernel))
      (case zz15_1 => (first | k_is | rfl | kernel_rfl | decide +kernel))
      (case zz15_2 => (first | k_is | rfl | kernel_rfl | decide +kernel))
      (case zz15_3 => (first | k_is | rfl | kernel_rfl | decide +kernel))
      (case zz15_4 => (first | k_is | rfl | kernel_rfl | decide +kernel))
    have vV : PySem.W.findCls (PySem.Challenge.cw_volumehall_k15_texts_of_no_steps_holds.heap_39 w.params) (.type "ValueError") (.type "type") "__init__" = some (.val (.builtin "ValueError.__init__")) := by (first | k_is | rfl | kernel_rfl | decide +kernel)
    have vr : PySem.W.readsIn (PySem.Challenge.cw_volumehall_k15_texts_of_no_steps_holds.heap_39 w.params) 32 (.type "type") = true := by (first | k_is | rfl | kernel_rfl | decide +kernel)
    have vg : PySem.W.specialIn (PySem.Challenge.cw_volumehall_k15_texts_of_no_steps_holds.heap_39 w.params) (.ref 32) "__getattribute__" = some (some (.builtin "type.__getattribute__")) := by (first | k_is | rfl | kernel_rfl | decide +kernel)
    have m1 : ∃ t, PySem.W.nsIn (PySem.Challenge.cw_volumehall_k15_texts_of_no_steps_holds.heap_39 w.params) mainGlobals "MOST_FIGURES" = some (some (.int 4 t)) := by
      refine' Zw.int15_of ?m1
      (case m1 => k_is)
    have m2 : ∃ t, PySem.W.nsIn (PySem.Challenge.cw_volumehall_k15_texts_of_no_steps_holds.heap_39 w.params) mainGlobals "FIGURES" = some (some (.str Zw.figures t)) := by
      refine' Zw.str15_of ?m2
      (case m2 => k_is)
    have m3 : PySem.W.nsIn (PySem.Challenge.cw_volumehall_k15_texts_of_no_steps_holds.heap_39 w.params) mainGlobals "WORDS" = some (some (.ref 163)) := by (first | k_is | rfl | kernel_rfl | decide +kernel)
    have dd : ∃ es en, List.lookup 163 (PySem.Challenge.cw_volumehall_k15_texts_of_no_steps_holds.heap_39 w.params) = some (⟨.type "dict", none, .dict es en, #[]⟩ : Obj) ∧ PySem.W.KeysLit w.params es.toList ∧ es.toList.map (fun e => Zw.strKey15 e.key) = (Zw.words.map (·.1)).map some := by
      refine' Zw.dct15_of ?d1 ?d2 ?d4
      (case d1 => k_is)
      (case d2 => repeat (first | exact trivial | exact ⟨⟨_, _, rfl, rfl⟩, trivial⟩ | refine ⟨⟨_, _, rfl, rfl⟩, ?_⟩))
      (case d4 => (first | rfl | kernel_rfl | decide +kernel))
    have w0 : ∃ t, PySem.W.nsIn (PySem.Challenge.cw_volumehall_k15_texts_of_no_steps_holds.heap_39 w.params) 163 "make" = some (some (.int 3 t)) := by
      refine' Zw.int15_of ?w0
      (case w0 => k_is)
    have w1 : ∃ t, PySem.W.nsIn (PySem.Challenge.cw_volumehall_k15_texts_of_no_steps_holds.heap_39 w.params) 163 "grow" = some (some (.int 2 t)) := by
      refine' Zw.int15_of ?w1
      (case w1 => k_is)
    have w2 : ∃ t, PySem.W.nsIn (PySem.Challenge.cw_volumehall_k15_texts_of_no_steps_holds.heap_39 w.params) 163 "drop" = some (some (.int 1 t)) := by
      refine' Zw.int15_of ?w2
      (case w2 => k_is)
    have w3 : ∃ t, PySem.W.nsIn (PySem.Challenge.cw_volumehall_k15_texts_of_no_steps_holds.heap_39 w.params) 163 "mirror" = some (some (.int 2 t)) := by
      refine' Zw.int15_of ?w3
      (case w3 => k_is)
    have w4 : ∃ t, PySem.W.nsIn (PySem.Challenge.cw_volumehall_k15_texts_of_no_steps_holds.heap_39 w.params) 163 "leave" = some (some (.int 1 t)) := by
      refine' Zw.int15_of ?w4
      (case w4 => k_is)
    have w5 : ∃ t, PySem.W.nsIn (PySem.Challenge.cw_volumehall_k15_texts_of_no_steps_holds.heap_39 w.params) 163 "stay" = some (some (.int 1 t)) := by
      refine' Zw.int15_of ?w5
      (case w5 => k_is)
    have w6 : ∃ t, PySem.W.nsIn (PySem.Challenge.cw_volumehall_k15_texts_of_no_steps_holds.heap_39 w.params) 163 "read" = some (some (.int 2 t)) := by
      refine' Zw.int15_of ?w6
      (case w6 => k_is)
    have w7 : ∃ t, PySem.W.nsIn (PySem.Challenge.cw_volumehall_k15_texts_of_no_steps_holds.heap_39 w.params) 163 "write" = some (some (.int 3 t)) := by
      refine' Zw.int15_of ?w7
      (case w7 => k_is)
    have w8 : ∃ t, PySem.W.nsIn (PySem.Challenge.cw_volumehall_k15_texts_of_no_steps_holds.heap_39 w.params) 163 "step" = some (some (.int 0 t)) := by
      refine' Zw.int15_of ?w8
      (case w8 => k_is)
    have w9 : ∃ t, PySem.W.nsIn (PySem.Challenge.cw_volumehall_k15_texts_of_no_steps_holds.heap_39 w.params) 163 "room" = some (some (.int 1 t)) := by
      refine' Zw.int15_of ?w9
      (case w9 => k_is)
    have w10 : ∃ t, PySem.W.nsIn (PySem.Challenge.cw_volumehall_k15_texts_of_no_steps_holds.heap_39 w.params) 163 "lacks" = some (some (.int 0 t)) := by
      refine' Zw.int15_of ?w10
      (case w10 => k_is)
    have w11 : ∃ t, PySem.W.nsIn (PySem.Challenge.cw_volumehall_k15_texts_of_no_steps_holds.heap_39 w.params) 163 "lost" = some (some (.int 0 t)) := by
      refine' Zw.int15_of ?w11
      (case w11 => k_is)
    have w12 : ∃ t, PySem.W.nsIn (PySem.Challenge.cw_volumehall_k15_texts_of_no_steps_holds.heap_39 w.params) 163 "volumes" = some (some (.int 0 t)) := by
      refine' Zw.int15_of ?w12
      (case w12 => k_is)
    have w13 : ∃ t, PySem.W.nsIn (PySem.Challenge.cw_volumehall_k15_texts_of_no_steps_holds.heap_39 w.params) 163 "places" = some (some (.int 1 t)) := by
      refine' Zw.int15_of ?w13
      (case w13 => k_is)
    have w14 : ∃ t, PySem.W.nsIn (PySem.Challenge.cw_volumehall_k15_texts_of_no_steps_holds.heap_39 w.params) 163 "copying" = some (some (.int 0 t)) := by
      refine' Zw.int15_of ?w14
      (case w14 => k_is)
    have w15 : ∃ t, PySem.W.nsIn (PySem.Challenge.cw_volumehall_k15_texts_of_no_steps_holds.heap_39 w.params) 163 "lose" = some (some (.int 1 t)) := by
      refine' Zw.int15_of ?w15
      (case w15 => k_is)
    have w16 : ∃ t, PySem.W.nsIn (PySem.Challenge.cw_volumehall_k15_texts_of_no_steps_holds.heap_39 w.params) 163 "bring" = some (some (.int 2 t)) := by
      refine' Zw.int15_of ?w16
      (case w16 => k_is)
    have w17 : ∃ t, PySem.W.nsIn (PySem.Challenge.cw_volumehall_k15_texts_of_no_steps_holds.heap_39 w.params) 163 "arm" = some (some (.int 1 t)) := by
      refine' Zw.int15_of ?w17
      (case w17 => k_is)
    have w18 : ∃ t, PySem.W.nsIn (PySem.Challenge.cw_volumehall_k15_texts_of_no_steps_holds.heap_39 w.params) 163 "again" = some (some (.int 0 t)) := by
      refine' Zw.int15_of ?w18
      (case w18 => k_is)
    have zB : (Zw.bltNames.all fun x => decide (PySem.W.nsIn (PySem.Challenge.cw_volumehall_k15_texts_of_no_steps_holds.heap_39 w.params) mainGlobals x = some none)) = true := by kernel_rfl
    obtain ⟨f_is_figures, d_is_figures, D_is_figures⟩ := e_is_figures
    obtain ⟨f_read_row, d_read_row, D_read_row⟩ := e_read_row
    obtain ⟨f_read, d_read, D_read⟩ := e_read
    obtain ⟨f_begun, d_begun, D_begun⟩ := e_begun
    obtain ⟨f_take, d_take, D_take⟩ := e_take
    obtain ⟨f_alike, d_alike, D_alike⟩ := e_alike
    obtain ⟨f_told, d_told, D_told⟩ := e_told
    obtain ⟨f_anystep, d_anystep, D_anystep⟩ := e_anystep
    obtain ⟨f_step, d_step, D_step⟩ := e_step
    obtain ⟨f_spoilt, d_spoilt, D_spoilt⟩ := e_spoilt
    obtain ⟨f_law, d_law, D_law⟩ := e_law
    obtain ⟨fI, d_I, D_ID, vI⟩ := e_I
    obtain ⟨fB, d_B, D_B, iB, tB⟩ := e_B
    obtain ⟨t1, m1⟩ := m1
    obtain ⟨t2, m2⟩ := m2
    obtain ⟨es, en, d1, d2, d4⟩ := dd
    have dW := Zw.khas_of (w := w) d1 d2 (by decide +kernel) d4
    have dV : ∀ p ∈ Zw.words, L2.KDct (PySem.Challenge.cw_volumehall_k15_texts_of_no_steps_holds.heap_39 w.params) w 163 p.1 (.int (p.2 : Nat)) := by
      intro p hp
      simp only [Zw.words, List.mem_cons, List.not_mem_nil, or_false] at hp
      rcases hp with rfl | rfl | rfl | rfl | rfl | rfl | rfl | rfl | rfl | rfl | rfl | rfl | rfl | rfl | rfl | rfl | rfl | rfl | rfl
      · obtain ⟨t, q⟩ := w0
        exact ⟨es, en, _, d1, d2, q, ⟨_, rfl⟩⟩
      · obtain ⟨t, q⟩ := w1
        exact ⟨es, en, _, d1, d2, q, ⟨_, rfl⟩⟩
      · obtain ⟨t, q⟩ := w2
        exact ⟨es, en, _, d1, d2, q, ⟨_, rfl⟩⟩
      · obtain ⟨t, q⟩ := w3
        exact ⟨es, en, _, d1, d2, q, ⟨_, rfl⟩⟩
      · obtain ⟨t, q⟩ := w4
        exact ⟨es, en, _, d1, d2, q, ⟨_, rfl⟩⟩
      · obtain ⟨t, q⟩ := w5
        exact ⟨es, en, _, d1, d2, q, ⟨_, rfl⟩⟩
      · obtain ⟨t, q⟩ := w6
        exact ⟨es, en, _, d1, d2, q, ⟨_, rfl⟩⟩
      · obtain ⟨t, q⟩ := w7
        exact ⟨es, en, _, d1, d2, q, ⟨_, rfl⟩⟩
      · obtain ⟨t, q⟩ := w8
        exact ⟨es, en, _, d1, d2, q, ⟨_, rfl⟩⟩
      · obtain ⟨t, q⟩ := w9
        exact ⟨es, en, _, d1, d2, q, ⟨_, rfl⟩⟩
      · obtain ⟨t, q⟩ := w10
        exact ⟨es, en, _, d1, d2, q, ⟨_, rfl⟩⟩
      · obtain ⟨t, q⟩ := w11
        exact ⟨es, en, _, d1, d2, q, ⟨_, rfl⟩⟩
      · obtain ⟨t, q⟩ := w12
        exact ⟨es, en, _, d1, d2, q, ⟨_, rfl⟩⟩
      · obtain ⟨t, q⟩ := w13
        exact ⟨es, en, _, d1, d2, q, ⟨_, rfl⟩⟩
      · obtain ⟨t, q⟩ := w14
        exact ⟨es, en, _, d1, d2, q, ⟨_, rfl⟩⟩
      · obtain ⟨t, q⟩ := w15
        exact ⟨es, en, _, d1, d2, q, ⟨_, rfl⟩⟩
      · obtain ⟨t, q⟩ := w16
        exact ⟨es, en, _, d1, d2, q, ⟨_, rfl⟩⟩
      · obtain ⟨t, q⟩ := w17
        exact ⟨es, en, _, d1, d2, q, ⟨_, rfl⟩⟩
      · obtain ⟨t, q⟩ := w18
        exact ⟨es, en, _, d1, d2, q, ⟨_, rfl⟩⟩
    have AA := Zw.all15 (l := PySem.Challenge.rw_volumehall_k15_texts_of_no_steps) (w := w) (VE := 32) (cls := Zw.clsOf15) (P_law := 233) (pw := 163) KX G hmg D_is_figures D_read_row D_read D_begun D_take D_alike D_told D_anystep D_step D_spoilt D_law D_ID vV vI vE vr vg D_B iB tB oB nB kB rB KN m1 m2 m3 dW dV (fun x hx => of_decide_eq_true (List.all_eq_true.mp zB x hx))
    obtain ⟨rfl, AA⟩ := AA
    have hT := PySem.W.km_tabs_of Y
    have cd1 : PySem.W.codeHdIn (PySem.Challenge.cw_volumehall_k15_texts_of_no_steps_holds.heap_39 w.params) 235 233 = true := by kernel_rfl
    have no1 : List.lookup 233 (PySem.Challenge.cw_volumehall_k15_texts_of_no_steps_holds.heap_39 w.params) = none := by kernel_rfl
    refine ⟨d_law, [(235, 233)], _, ?zt, ?zn, ?zc, fun s u => Zw.binds15 D_law.toDefF15 s u, ?zs, fun base KB GB TB => AA base KB GB (TB (235, 233) (by simp))⟩
    case zt =>
      intro p hp
      rw [List.mem_singleton.mp hp]
      exact hT 233 (by simp)
    case zn =>
      intro p hp
      rw [List.mem_singleton.mp hp]
      exact no1
    case zc =>
      intro p hp
      rw [List.mem_singleton.mp hp]
      exact PySem.W.codeHd_of_K KX cd1
    case zs =>
      intro H a ns hl _ hH hS
      refine Zw.law_start15 (Nat.le_trans hl (by decide)) (fun p hp => ?_) hS
      rw [List.mem_singleton.mp hp]
      exact hH (235, 233) (by simp)
