import PyProof.Rows.All
import Wide.All
import OpenK.AllK
import Wide.FinOn
import HandS.Base
import HandS.Call
import HandS.List
import HandS.Comp
import HandS.Dict
import HandS.Iter
import HandS.Text
import HandS.Words
import HandS.WordsList
import HandS.WordsDict
import HandS.Exc
import HandS.ExcOwn
import HandS.TryOnly
import HandS.WordsExc
import HandS.Wide
import HandS.IsInst
import HandS.Flow
import HandS.TupAny
import HandS.DeepEq
import HandS.Deep
import HandS.More
import HandS.Lambda
import HandS.EndTab
import HandS.ExcIs
import HandS.ExcField
import HandS.SetFor
import PyProof.DictUpdate
import PyProof.CollectIter
import PyProof.Walks
import KE.KUnpack
import HandS.Star
import HandS.RaiseMore
import HandS.ExcInit
import HandS.Defaults
import KE.KTypeName
import PySem.Challenge.RW_volumehall_k02_benches
import KE.KLam
import KE.KNestM
set_option Elab.async false
set_option linter.all false
set_option maxRecDepth 100000
set_option maxHeartbeats 4000000
namespace Zw
open PySem PySem.Spec PyProof.Rows L2
/-! ## what stands apart: lists of things that hold of parts of the heap -/
abbrev HP := Hp → Prop
/-- what never changes may be shared -/
def fixO : HO → Bool | .tup _ => true | .frz _ (.ext _) => true | .frz _ (.lst _) => true | _ => false
def Sub (h H : Hp) : Prop := ∀ a o, h a = some o → H a = some o
def Dj (h g : Hp) : Prop := ∀ a o u, h a = some o → g a = some u → fixO o = true
def SL : List HP → Hp → Prop
  | [], _ => True
  | A :: l, H => ∃ h g, Sub h H ∧ Sub g H ∧ Dj h g ∧ A h ∧ SL l g
def pt (p : Addr) (o : HO) : HP := fun h => h p = some o
theorem Sub.refl (H : Hp) : Sub H H := fun _ _ h => h
theorem Sub.trans {h g H : Hp} (a : Sub h g) (b : Sub g H) : Sub h H := fun c o e => b c o (a c o e)
theorem SL.mono : ∀ {l : List HP} {H H' : Hp}, Sub H H' → SL l H → SL l H'
  | [], _, _, _, _ => trivial
  | _ :: _, _, _, s, ⟨h, g, a, b, d, x, y⟩ => ⟨h, g, a.trans s, b.trans s, d, x, y⟩
/-- two parts of one heap -/
def join (h g : Hp) : Hp := fun a => match h a with | some o => some o | none => g a
theorem sub_l (h g : Hp) : Sub h (join h g) := fun a o e => by unfold join; rw [e]
theorem sub_r {h g H : Hp} (a : Sub h H) (b : Sub g H) : Sub g (join h g) := fun c o e => by
  unfold join
  cases q : h c with
  | none => exact e
  | some u =>
    have h1 := a c u q
    have h2 := b c o e
    rw [h1] at h2
    exact h2
theorem join_sub {h g H : Hp} (a : Sub h H) (b : Sub g H) : Sub (join h g) H := fun c o e => by
  unfold join at e
  cases q : h c with
  | none => rw [q] at e; exact b c o e
  | some u => rw [q] at e; exact a c o (q.trans e)
theorem Dj.sub {h g h' g' : Hp} (d : Dj h g) (a : Sub h' h) (b : Sub g' g) : Dj h' g' := fun c o u e f => d c o u (a c o e) (b c u f)
theorem Dj.symm {h g H : Hp} (d : Dj h g) (a : Sub h H) (b : Sub g H) : Dj g h := fun c o u e f => by
  have h1 := a c u f
  have h2 := b c o e
  rw [h1] at h2
  cases h2
  exact d c o o f e
theorem Dj.join_r {h g i : Hp} (d : Dj h g) (e : Dj h i) : Dj h (join g i) := fun c o u p q => by
  unfold join at q
  cases r : g c with
  | none => rw [r] at q; exact e c o u p q
  | some z => exact d c o z p r
theorem Dj.join_l {h g i : Hp} (d : Dj h i) (e : Dj g i) : Dj (join h g) i := fun c o u p q => by
  unfold join at p
  cases r : h c with
  | none => rw [r] at p; exact e c o u p q
  | some z =>
    rw [r] at p
    cases p
    exact d c o u r q
theorem SL.swap {A B : HP} {l : List HP} {H : Hp} (x : SL (A :: B :: l) H) : SL (B :: A :: l) H := by
  obtain ⟨h, g, s1, s2, d, a, hb, gr, s3, s4, d2, b, r⟩ := x
  refine ⟨hb, join h gr, s3.trans s2, join_sub s1 (s4.trans s2), ?_, b, h, gr, sub_l _ _, sub_r s1 (s4.trans s2), d.sub (Sub.refl _) s4, a, r⟩
  exact Dj.join_r ((d.sub (Sub.refl _) s3).symm s1 (s3.trans s2)) d2
theorem SL.perm {l l' : List HP} (p : l.Perm l') : ∀ {H : Hp}, SL l H → SL l' H := by
  induction p with
  | nil => exact fun x => x
  | cons A p ih => exact fun ⟨h, g, a, b, d, x, y⟩ => ⟨h, g, a, b, d, x, ih y⟩
  | swap A B l => exact fun x => x.swap
  | trans p q ihp ihq => exact fun x => ihq (ihp x)
theorem SL.tail {A : HP} {l : List HP} {H : Hp} (x : SL (A :: l) H) : SL l H := by
  obtain ⟨h, g, a, b, d, x, y⟩ := x
  exact y.mono b
/-- A is taken out of l, r is left -/
inductive Pk {α : Type _} (a : α) : List α → List α → Prop
  | hd {l : List α} : Pk a (a :: l) l
  | tl {b : α} {l r : List α} : Pk a l r → Pk a (b :: l) (b :: r)
theorem Pk.perm {α : Type _} {a : α} {l r : List α} (p : Pk a l r) : l.Perm (a :: r) := by
  induction p with
  | hd => exact .refl _
  | tl p ih => exact (List.Perm.cons _ ih).trans (.swap _ _ _)
theorem SL.pk {A : HP} {l r : List HP} {H : Hp} (x : SL l H) (p : Pk A l r) : SL (A :: r) H := x.perm p.perm
theorem SL.unpk {A : HP} {l r : List HP} {H : Hp} (p : Pk A l r) (x : SL (A :: r) H) : SL l H := x.perm p.perm.symm
/-- several are taken out -/
inductive Pks {α : Type _} : List α → List α → List α → Prop
  | nil {l : List α} : Pks [] l l
  | cons {a : α} {as l r r' : List α} : Pk a l r → Pks as r r' → Pks (a :: as) l r'
theorem Pks.perm {α : Type _} {as l r : List α} (p : Pks as l r) : l.Perm (as ++ r) := by
  induction p with
  | nil => exact .refl _
  | cons h p ih => exact h.perm.trans (.cons _ ih)
theorem SL.pks {as l r : List HP} {H : Hp} (x : SL l H) (p : Pks as l r) : SL (as ++ r) H := x.perm p.perm
theorem SL.imp {A B : HP} {l : List HP} {H : Hp} (x : SL (A :: l) H) (f : ∀ h, A h → B h) : SL (B :: l) H := by
  obtain ⟨h, g, a, b, d, x, y⟩ := x
  exact ⟨h, g, a, b, d, f h x, y⟩
theorem SL.ex {α : Sort _} {A : α → HP} {l : List HP} {H : Hp} (x : SL ((fun h => ∃ i, A i h) :: l) H) : ∃ i, SL (A i :: l) H := by
  obtain ⟨h, g, a, b, d, ⟨i, x⟩, y⟩ := x
  exact ⟨i, h, g, a, b, d, x, y⟩
theorem SL.pure {P : Prop} {A : HP} {l : List HP} {H : Hp} (x : SL ((fun h => P ∧ A h) :: l) H) : P ∧ SL (A :: l) H := by
  obtain ⟨h, g, a, b, d, ⟨p, x⟩, y⟩ := x
  exact ⟨p, h, g, a, b, d, x, y⟩
theorem SL.fact {P : Prop} {l : List HP} {H : Hp} (x : SL ((fun _ => P) :: l) H) : P ∧ SL l H := by
  obtain ⟨h, g, a, b, d, p, y⟩ := x
  exact ⟨p, y.mono b⟩
theorem SL.nest : ∀ {m l : List HP} {H : Hp}, SL (SL m :: l) H → SL (m ++ l) H
  | [], l, H, x => x.tail
  | A :: m, l, H, ⟨h, g, a, b, d, ⟨h1, h2, s1, s2, d2, x1, x2⟩, y⟩ => by
    refine ⟨h1, join h2 g, s1.trans a, join_sub (s2.trans a) b, Dj.join_r d2 (d.sub s1 (Sub.refl _)), x1, ?_⟩
    exact SL.nest ⟨h2, g, sub_l _ _, sub_r (s2.trans a) b, d.sub s2 (Sub.refl _), x2, y⟩
theorem SL.unnest : ∀ {m l : List HP} {H : Hp}, SL (m ++ l) H → SL (SL m :: l) H
  | [], l, H, x => ⟨fun _ => none, H, (fun _ _ e => by cases e), Sub.refl _, (fun _ _ _ e => by cases e), trivial, x⟩
  | A :: m, l, H, ⟨h, g, a, b, d, x, y⟩ => by
    obtain ⟨h1, g1, s1, s2, d2, x1, y1⟩ := SL.unnest y
    refine ⟨join h h1, g1, join_sub a (s1.trans b), s2.trans b, Dj.join_l (d.sub (Sub.refl _) s2) d2, ⟨h, h1, sub_l _ _, sub_r a (s1.trans b), d.sub (Sub.refl _) s1, x, x1⟩, y1⟩
/-! ### single things -/
def one (p : Addr) (o : HO) : Hp := upd (fun _ => none) p o
theorem one_at {p : Addr} {o : HO} : one p o p = some o := upd_same
theorem one_some {p a : Addr} {o u : HO} (e : one p o a = some u) : a = p ∧ u = o := by
  unfold one at e
  by_cases h : a = p
  · subst h
    rw [upd_same] at e
    exact ⟨rfl, (Option.some.inj e).symm⟩
  · rw [upd_ne h] at e; cases e

theorem SL.get {p : Addr} {o : HO} : ∀ {l : List HP} {H : Hp}, pt p o ∈ l → SL l H → H p = some o
  | A :: l, H, m, ⟨h, g, a, b, d, x, y⟩ => by
    cases m with
    | head => exact a p o x
    | tail _ m => exact b p o (SL.get m y)
theorem SL.new {l : List HP} {H : Hp} {p : Addr} (o : HO) (n : H p = none) (x : SL l H) : SL (pt p o :: l) (upd H p o) := by
  refine ⟨one p o, H, fun a u e => ?_, fun a u e => ?_, fun a u v e f => ?_, one_at, x⟩
  · obtain ⟨rfl, rfl⟩ := one_some e
    exact upd_same
  · rw [upd_ne (ne_of_none e n)]; exact e
  · obtain ⟨rfl, rfl⟩ := one_some e
    rw [n] at f; cases f
/-- what stands at p is another thing now -/
inductive Rp {α : Type _} (a b : α) : List α → List α → Prop
  | hd {l : List α} : Rp a b (a :: l) (b :: l)
  | tl {c : α} {l r : List α} : Rp a b l r → Rp a b (c :: l) (c :: r)
theorem Rp.of {α : Type _} {a b : α} {l l' : List α} (p : Rp a b l l') : ∃ r, Pk a l r ∧ Pk b l' r := by
  induction p with
  | hd => exact ⟨_, .hd, .hd⟩
  | tl p ih =>
    obtain ⟨r, h1, h2⟩ := ih
    exact ⟨_, .tl h1, .tl h2⟩
theorem SL.wr {l l' : List HP} {H : Hp} {p : Addr} {o o' : HO} (r : Rp (pt p o) (pt p o') l l') (f : fixO o = false) (x : SL l H) : SL l' (upd H p o') := by
  obtain ⟨r, h1, h2⟩ := r.of
  refine SL.unpk h2 ?_
  obtain ⟨h, g, a, b, d, x, y⟩ := x.pk h1
  have gn : g p = none := by
    cases q : g p with
    | none => rfl
    | some u =>
      have := d p o u x q
      rw [f] at this; cases this
  refine ⟨one p o', g, fun a u e => ?_, fun a u e => ?_, fun a u v e f => ?_, one_at, y⟩
  · obtain ⟨rfl, rfl⟩ := one_some e
    exact upd_same
  · rw [upd_ne (ne_of_none e gn)]; exact b a u e
  · obtain ⟨rfl, rfl⟩ := one_some e
    rw [gn] at f; cases f
/-- a tuple may be told twice -/
theorem SL.dup {l : List HP} {H : Hp} {p : Addr} {o : HO} (f : fixO o = true) (m : pt p o ∈ l) (x : SL l H) : SL (pt p o :: l) H := by
  have e := SL.get m x
  refine ⟨one p o, H, fun a u q => ?_, Sub.refl _, fun a u v q r => ?_, one_at, x⟩
  · obtain ⟨rfl, rfl⟩ := one_some q
    exact e
  · obtain ⟨rfl, rfl⟩ := one_some q
    exact f
theorem SL.drop {A : HP} {l r : List HP} {H : Hp} (p : Pk A l r) (x : SL l H) : SL r H := (x.pk p).tail
end Zw

set_option Elab.async false
set_option linter.all false
set_option maxRecDepth 100000
set_option maxHeartbeats 4000000
namespace Zw
open PySem PySem.Spec PyProof.Rows L2
/-! ## functions that are made on the spot (lambda), by their objects -/
/-- the object of a lambda: its defaults are dV -/
abbrev lamFd (qual : Str) (params : Arguments) (body : Expr) (scope : Scope) (cl : List (Str × Addr)) (dV pm cv ctv : Value) : FuncData :=
  { name := "<lambda>", qualname := qual, params, body := .expr body, scope, globals := mainGlobals, closure := cl, defaults := dV, kwdefaults := .none, doc := .none, pyModule := pm, annotations := none, code := cv, closureTuple := ctv, builtins := builtinsNs }
abbrev lamO (qual : Str) (params : Arguments) (body : Expr) (scope : Scope) (cl : List (Str × Addr)) (dV pm cv ctv : Value) : Obj :=
  { cls := .type "function", data := .func (lamFd qual params body scope cl dV pm cv ctv) }
section
variable {M : Model} {A : Around} {X : Value → Shared → Prop} {s : Shared} {qual : Str} {params : Arguments} {body : Expr} {scope : Scope} {env : Env} {c P : Addr} {ps : Array Value} {pos : Pos} {ln : Nat} {mg : Str → Option Value}
  {cl : List (Str × Addr)} {Q : Value → Shared → Prop} {dV : Value}
/-- what is told of the heap behind the making: the code object is old or new -/
def LamEnd (s : Shared) (P : Addr) (ps : Array Value) (pos : Pos) (qual : Str) (cv : Value) (h' : Heap) : Prop :=
  (∀ b o, b ≠ P → s.heap.get? b = some o → h'.get? b = some o) ∧ s.heap.objs.size ≤ h'.objs.size ∧
  ((codeAmong pos ps.toList = some cv ∧ h'.get? P = s.heap.get? P) ∨
   (∃ c', cv = .ref c' ∧ s.heap.objs.size ≤ c' ∧ c' < h'.objs.size ∧ h'.CodeRec (.ref c') qual ∧ h'.get? P = some (PySem.W.tabObj (ps ++ #[rawInt pos.line, rawInt pos.col, .ref c']))))
theorem lam_tail (hcl : closureFor scope env = pure cl) (hge : env.globals = mainGlobals) (hg : s.heap.Ns mainGlobals mg) (hcode : env.code = .ref c) (C : PySem.W.CodeHd s.heap c P) (hP : s.heap.get? P = some (PySem.W.tabObj ps)) (ht : TriplesOk ps.toList)
    (hgP : mainGlobals ≠ P) (hb : s.heap.BuiltinsAt mg P)
    (h : ∀ cv ctv h' tk, LamEnd s P ps pos qual cv h' → Q (.ref h'.objs.size) { s with heap := h'.push (lamO qual params body scope cl dV ((mg "__name__").getD .none) cv ctv), toks := tk }) :
    wpAny M A (makeTail "<lambda>" qual params (.expr body) scope env dV .none none pos ln) Q X s := by
  obtain ⟨bm, ob, e1, e2, _, e3, e4, e5, e6, e7⟩ := hb
  -- the closure's tuple is laid or not; then the code object, found or made
  have go : ∀ (s1 : Shared) (ctv : Value), (∀ b o, s.heap.get? b = some o → s1.heap.get? b = some o) → s.heap.objs.size ≤ s1.heap.objs.size → s1.gens = s.gens → s1.drawn = s.drawn → s1.os = s.os →
      wpAny M A (do
        let code ← functionCode env pos ln "<lambda>" qual params scope (.expr body)
        let b ← builtinsFor env.globals env.builtins
        let pm ← nsGet env.globals "__name__"
        let dc ← pure Value.none
        newObj (.type "function") (.func { name := "<lambda>", qualname := qual, params, body := .expr body, scope, globals := env.globals, closure := cl, defaults := dV, kwdefaults := .none, doc := dc, pyModule := pm.getD .none, annotations := none, code := code, closureTuple := ctv, builtins := b })) Q X s1 := by
    intro s1 ctv k hsz g1 g2 g3
    have hg1 := hg.keeps k
    have hP1 := k _ _ hP
    have C1 := C.keeps k
    have e41 := k _ _ e4
    obtain ⟨hh, gg, dd, tt, oo⟩ := s1
    cases g1; cases g2; cases g3
    cases hf : codeAmong pos ps.toList with
    | some cv =>
      refine wpAny_bind (wpAny_functionCode_hit hcode (C1.code hP1 ht) hf ?_)
      rw [hge]
      refine wpAny_bind (wpAny_builtinsFor hg1 e1 e2 e41 e5 e6 e7 ?_)
      refine wpAny_bind (wpAny_nsGet hg1 ?_)
      exact wpAny_bind (wpAny_pure (wpAny_newObj_type (h cv ctv hh tt ⟨fun b o _ q => k b o q, hsz, .inl ⟨hf, by rw [hP]; exact hP1⟩⟩) (by size_fits)))
    | none =>
      refine wpAny_bind (wpAny_functionCodeX hcode (C1.code hP1 ht) (C1.tab hP1) hf fun c' h' tk hx hge' hlt _ hrec htb _ => ?_)
      have hg2 := hg1.extBut hx hgP
      rw [hge]
      refine wpAny_bind (wpAny_builtinsFor hg2 e1 e2 (hx _ _ e3 e41) e5 e6 e7 ?_)
      refine wpAny_bind (wpAny_nsGet hg2 ?_)
      exact wpAny_bind (wpAny_pure (wpAny_newObj_type (h (.ref c') ctv h' tk ⟨fun b o hb q => hx b o hb (k b o q), Nat.le_trans hsz (Nat.le_trans hge' (Nat.le_of_lt hlt)), .inr ⟨c', rfl, Nat.le_trans hsz hge', hlt, hrec, htb.2⟩⟩) (by size_fits)))
  unfold makeTail
  rw [hcl]
  refine wpAny_bind (wpAny_pure ?_)
  cases cl with
  | nil =>
    simp only [List.isEmpty_nil, if_true]
    refine wpAny_bind (wpAny_pure ?_)
    exact go s .none (fun _ _ q => q) (Nat.le_refl _) rfl rfl rfl
  | cons q r =>
    simp only [List.isEmpty_cons, Bool.false_eq_true, if_false]
    refine wpAny_bind (wpAny_newTextTuple ?_)
    refine go _ _ (fun b o e => ?_) ?_ rfl rfl rfl
    · exact Heap.get?_push_of_some _ e
    · show s.heap.objs.size ≤ (s.heap.push _).objs.size
      rw [Heap.size_push]
      omega
end

/-! ### in a context -/
abbrev uT : HO := .ext fun _ => True
/-- the tables of code objects: each code object told there is known -/
def tabsOk (T : List (Addr × Str)) (H : Hp) : Prop := ∀ p ∈ T, ∃ ps : Array Value, H p.1 = some (.tbl ps) ∧ TriplesOk ps.toList ∧ ∀ (pos : Pos) (cv : Value), codeAmong pos ps.toList = some cv → ∃ c od, cv = .ref c ∧ H c = some (.frz od (LamX.CodeO c p.2))
/-- all but the tables stays -/
def KeepT (T : List (Addr × Str)) (H H' : Hp) : Prop := ∀ b o, H b = some o → (∀ p ∈ T, p.1 ≠ b) → H' b = some o
theorem tabsOk.laid {T : List (Addr × Str)} {H : Hp} {a : Addr} {o : HO} (t : tabsOk T H) (n : H a = none) : tabsOk T (upd H a o) := fun p hp => by
  obtain ⟨ps, h1, h2, h3⟩ := t p hp
  refine ⟨ps, by rw [upd_ne (ne_of_none h1 n)]; exact h1, h2, fun pos cv e => ?_⟩
  obtain ⟨c, od, e1, e2⟩ := h3 pos cv e
  exact ⟨c, od, e1, by rw [upd_ne (ne_of_none e2 n)]; exact e2⟩
theorem KeepT.laid {T : List (Addr × Str)} {H : Hp} {a : Addr} {o : HO} (n : H a = none) : KeepT T H (upd H a o) := fun b u e _ => by rw [upd_ne (ne_of_none e n)]; exact e
theorem KeepT.trans {T : List (Addr × Str)} {H H' H2 : Hp} (a : KeepT T H H') (b : KeepT T H' H2) : KeepT T H H2 := fun c o e n => b c o (a c o e n) n
section
variable {X : Cx} {pins : List (Addr × Obj)} {σ : L2.St} {H : Hp} {s : Shared} {T : List (Addr × Str)} {c P : Addr} {q : Str}
/-- behind the making of a lambda -/
theorem lam_end (I : Inv X pins σ H s) (hm : (P, q) ∈ T) (hu : ∀ p ∈ T, p.1 = P → p.2 = q) (hT : tabsOk T H) {ps : Array Value} (hP : H P = some (.tbl ps)) (ht : TriplesOk ps.toList) {pos : Pos} {cv : Value} {h' : Heap} {tk : Tok} (L : LamEnd s P ps pos q cv h') {o : Obj} (ho : o.isFreed = false) :
    ∃ c' od H1, cv = .ref c' ∧ Inv X pins σ H1 { s with heap := h'.push o, toks := tk } ∧ KeepT T H H1 ∧ tabsOk T H1 ∧ H1 h'.objs.size = some (.frz o uT) ∧ H1 c' = some (.frz od (LamX.CodeO c' q)) := by
  obtain ⟨k, hsz, L⟩ := L
  have hPs : s.heap.get? P = some { cls := .none, data := .fields ps } := I.hok P _ hP
  have lay : ∀ {H1 : Hp} {s1 : Shared}, Inv X pins σ H1 s1 → s1.heap = h' → s1.gens = s.gens → s1.drawn = s.drawn → s1.os = s.os → H1 h'.objs.size = none ∧ Inv X pins σ (upd H1 h'.objs.size (.frz o uT)) { s with heap := h'.push o, toks := tk } := by
    intro H1 s1 J e1 e2 e3 e4
    obtain ⟨a1, a2, a3, a4, a5⟩ := s1
    cases e1; cases e2; cases e3; cases e4
    have hn : H1 a1.objs.size = none := J.hok.fresh (Nat.le_refl _)
    exact ⟨hn, J.laid (t' := tk) (h' := a1.push o) (fun b u e => Heap.get?_push_of_some _ e) (Nat.le_refl _) ⟨Heap.get?_push_size _ ho, trivial, ⟨_, Heap.get?_push_size _ ho⟩, fun _ _ _ _ => trivial⟩⟩
  rcases L with ⟨hf, hP2⟩ | ⟨c', rfl, hge, hlt, hrec, hP2⟩
  · obtain ⟨ps', e1, e2, e3⟩ := hT _ hm
    have e1 : H P = some (.tbl ps') := e1
    rw [hP] at e1
    cases e1
    obtain ⟨c', od, rfl, hc⟩ := e3 pos cv hf
    have J : Inv X pins σ H { s with heap := h', toks := tk } := I.kept fun b u e => by
      by_cases hb : b = P
      · rw [hb] at e ⊢
        rw [hP2]
        exact e
      · exact k b u hb e
    obtain ⟨hn, J2⟩ := lay J rfl rfl rfl rfl
    exact ⟨c', od, _, rfl, J2, KeepT.laid hn, hT.laid hn, upd_same, by rw [upd_ne (ne_of_none hc hn)]; exact hc⟩
  · obtain ⟨c2, oc, vs, t, e2, hoc, hd, hv⟩ := hrec
    cases e2
    have J := LamX.inv_table (t' := tk) (q := q) (c := c') (more := #[rawInt pos.line, rawInt pos.col, .ref c']) I hP k hP2 hge ⟨oc, vs, t, hoc, hd, hv⟩
    have nC : H c' = none := I.hok.fresh hge
    have nPc : P ≠ c' := ne_of_none hP nC
    obtain ⟨od, J1⟩ := J.lock (d := c') upd_same trivial
    rw [upd_upd] at J1
    obtain ⟨hn, J2⟩ := lay J1 rfl rfl rfl rfl
    have at1 : upd (upd H P (.tbl (ps ++ #[rawInt pos.line, rawInt pos.col, .ref c']))) c' (.frz od (LamX.CodeO c' q)) c' = some (.frz od (LamX.CodeO c' q)) := upd_same
    have keep : KeepT T H (upd (upd H P (.tbl (ps ++ #[rawInt pos.line, rawInt pos.col, .ref c']))) c' (.frz od (LamX.CodeO c' q))) := fun b u e n => by
      rw [upd_ne (ne_of_none e nC), upd_ne (fun z => n _ hm z.symm)]
      exact e
    have frz : ∀ {d : Addr} {o2 : Obj} {u2 : HO}, H d = some (.frz o2 u2) → upd (upd H P (.tbl (ps ++ #[rawInt pos.line, rawInt pos.col, .ref c']))) c' (.frz od (LamX.CodeO c' q)) d = some (.frz o2 u2) := fun {d o2 u2} e => by
      rw [upd_ne (ne_of_none e nC), upd_ne (fun z => by rw [z, hP] at e; cases e)]
      exact e
    have tabs : tabsOk T (upd (upd H P (.tbl (ps ++ #[rawInt pos.line, rawInt pos.col, .ref c']))) c' (.frz od (LamX.CodeO c' q))) := fun p hp => by
      obtain ⟨ps', e1, e2, e3⟩ := hT p hp
      by_cases hpP : p.1 = P
      · rw [hpP, hP] at e1
        cases e1
        refine ⟨_, by rw [hpP, upd_ne nPc, upd_same], by rw [Array.toList_append]; exact PySem.TriplesOk_snoc _ _ _ _ ht, fun p' cv' e => ?_⟩
        rw [Array.toList_append] at e
        rcases LamX.among_app _ ht e with z | z
        · obtain ⟨d, od', r1, r2⟩ := e3 p' cv' z
          exact ⟨d, od', r1, frz r2⟩
        · rw [hu p hp hpP]
          exact ⟨c', od, z, at1⟩
      · refine ⟨ps', by rw [upd_ne (ne_of_none e1 nC), upd_ne hpP]; exact e1, e2, fun p' cv' e => ?_⟩
        obtain ⟨d, od', r1, r2⟩ := e3 p' cv' e
        exact ⟨d, od', r1, frz r2⟩
    exact ⟨c', od, _, rfl, J2, keep.trans (KeepT.laid hn), tabs.laid hn, upd_same, by rw [upd_ne (ne_of_none at1 hn)]; exact at1⟩
end
end Zw

set_option Elab.async false
set_option linter.all false
set_option maxRecDepth 100000
set_option maxHeartbeats 4000000
namespace Zw
open PySem PySem.Spec PyProof.Rows L2
/-! ## the lambda's value: what is known of it -/
/-- no parameter, or one with a written default -/
inductive LPar : Arguments → List (Str × Int) → Prop
  | p0 : LPar ⟨[], [], none, [], [], none, []⟩ []
  | p1 (a : Str) (i : Int) (j : Nat) (p p2 : Pos) : LPar ⟨[], [⟨a, none, p⟩], none, [], [], none, [.Constant (.int i) j p2]⟩ [(a, i)]
def lparB (A : Arguments) : Option (List (Str × Int)) := match A with
  | ⟨[], [], none, [], [], none, []⟩ => some []
  | ⟨[], [⟨a, none, _⟩], none, [], [], none, [.Constant (.int i) _ _]⟩ => some [(a, i)]
  | _ => none
theorem lparB_ok {A : Arguments} {l : List (Str × Int)} (h : lparB A = some l) : LPar A l := by
  unfold lparB at h
  split at h
  · cases h; exact .p0
  · cases h; exact .p1 _ _ _ _ _
  · cases h
/-- the names of a lambda's scope, in N and the maker's scope sc -/
def lamB (N : List Str) (sc scope : Scope) (l : List (Str × Int)) : Bool :=
  decide (scope.kind = .function) && !scope.isCoroutine && !scope.isGenerator && (l.all fun p => decide (scope.names.lookup p.1 = some .local) && decide (p.1 ∉ N)) &&
  (scope.names.all fun y => !decide (y.2 = .cell) && (!decide (y.2 = .local) || decide (y.1 ∉ N)) && (!decide (y.2 = .free) || decide (sc.names.lookup y.1 = some .cell) || decide (sc.names.lookup y.1 = some .free)))
structure LamSc (N : List Str) (sc scope : Scope) (l : List (Str × Int)) : Prop where
  kind : scope.kind = .function
  co : scope.isCoroutine = false
  gen : scope.isGenerator = false
  par : ∀ p ∈ l, scope.names.lookup p.1 = some .local ∧ p.1 ∉ N
  cell : ∀ y ∈ scope.names, y.2 ≠ .cell
  loc : ∀ y ∈ scope.names, y.2 = .local → y.1 ∉ N
  free : ∀ y ∈ scope.names, y.2 = .free → sc.names.lookup y.1 = some .cell ∨ sc.names.lookup y.1 = some .free
theorem lamB_ok {N : List Str} {sc scope : Scope} {l : List (Str × Int)} (h : lamB N sc scope l = true) : LamSc N sc scope l := by
  unfold lamB at h
  simp only [Bool.and_eq_true, Bool.or_eq_true, Bool.not_eq_true', decide_eq_true_eq, decide_eq_false_iff_not, List.all_eq_true] at h
  obtain ⟨⟨⟨⟨h1, h2⟩, h3⟩, h4⟩, h5⟩ := h
  refine ⟨h1, h2, h3, h4, fun y hy => (h5 y hy).1.1, fun y hy e => ?_, fun y hy e => ?_⟩
  · rcases (h5 y hy).1.2 with z | z
    · exact absurd e z
    · exact z
  · rcases (h5 y hy).2 with (z | z) | z
    · exact absurd e z
    · exact .inl z
    · exact .inr z
section
variable {X : Cx}
theorem LamSc.has {N : List Str} {scope : Scope} {l : List (Str × Int)} (L : LamSc N X.env.scope scope l) (ok : X.Ok) : ∀ y ∈ scope.names, y.2 = .free → ∃ c, X.env.cells.lookup y.1 = some c := fun y hy e => by
  rcases L.free y hy e with k | k
  · exact ok.has _ (.inl k)
  · exact ok.has _ (.inr k)
/-- a lambda's value at f: its own object, its code object, its defaults are known, by fz -/
def MadeBy (X : Cx) (params : Arguments) (body : Expr) (scope : Scope) (l : List (Str × Int)) (f : Addr) (fz : List (Addr × HO)) : Prop :=
  ∃ dV pm c' od ctv, (f, HO.frz (lamO (X.env.qual ++ "<lambda>") params body scope (cloFrom X.env.cells scope.names []) dV pm (.ref c') ctv) uT) ∈ fz ∧ (c', HO.frz od (LamX.CodeO c' (X.env.qual ++ "<lambda>"))) ∈ fz ∧
    ((l = [] ∧ dV = .none) ∨ ∃ t, l ≠ [] ∧ dV = .ref t ∧ (t, HO.tup (l.map fun p => .int p.2)) ∈ fz) ∧ ∀ p ∈ fz, fixO p.2 = true
/-- the lambda is made -/
theorem pe_lam {params : Arguments} {body : Expr} {scope : Scope} {pos : Pos} {l : List (Str × Int)} {T : List (Addr × Str)} {c P : Addr} {N : List Str} (hp : LPar params l) (L : LamSc N X.env.scope scope l) (TB : LamX.TabB X.base X.mg c P) (hcode : X.env.code = .ref c) (hm : (P, X.env.qual ++ "<lambda>") ∈ T)
    (hu : ∀ p ∈ T, p.1 = P → p.2 = X.env.qual ++ "<lambda>") :
    PE X (.Lambda params body scope pos) (fun _ H Q => tabsOk T H ∧ ∀ f fz H1, KeepT T H H1 → tabsOk T H1 → (∀ p ∈ fz, H1 p.1 = some p.2) → MadeBy X params body scope l f fz → Q (.ref f) H1) := by
  refine ⟨fun pins s σ H Q I h => ?_⟩
  obtain ⟨hT, h⟩ := h
  rw [arm_eval_Lambda]
  -- the making itself, behind the defaults
  have make : ∀ (s1 : Shared) (H1 : Hp) (dV : Value) (dz : List (Addr × HO)), Inv X pins σ H1 s1 → KeepT T H H1 → tabsOk T H1 → (∀ p ∈ dz, H1 p.1 = some p.2 ∧ fixO p.2 = true) → ((l = [] ∧ dV = .none) ∨ ∃ t, l ≠ [] ∧ dV = .ref t ∧ (t, HO.tup (l.map fun p => .int p.2)) ∈ dz) →
      wpAny (model X.prog X.w) X.A (makeTail "<lambda>" (X.env.qual ++ "<lambda>") params (.expr body) scope X.env dV .none none pos pos.line) (EP X pins σ Q) X.xe s1 := by
    intro s1 H1 dV dz I1 k1 t1 z1 d1
    obtain ⟨ps, hP, ht, ha⟩ := t1 _ hm
    have hP : H1 P = some (.tbl ps) := hP
    refine lam_tail (mg := X.mg) (c := c) (P := P) (ps := ps) (closure_ok (L.has I1.ok)) I1.ok.glob (I1.mod.glob.keeps I1.bk) hcode (TB.code.keeps I1.bk) (I1.hok P _ hP) ht TB.gP (TB.bm.keeps I1.bk) fun cv ctv h' tk e => ?_
    obtain ⟨c', od, H2, rfl, I2, k2, t2, e1, e2⟩ := lam_end (o := lamO (X.env.qual ++ "<lambda>") params body scope (cloFrom X.env.cells scope.names []) dV ((X.mg "__name__").getD .none) cv ctv) I1 hm hu t1 hP ht e rfl
    refine ⟨.ref h'.objs.size, H2, I2, rfl, h _ ((h'.objs.size, HO.frz (lamO (X.env.qual ++ "<lambda>") params body scope (cloFrom X.env.cells scope.names []) dV ((X.mg "__name__").getD .none) (.ref c') ctv) uT) :: (c', HO.frz od (LamX.CodeO c' (X.env.qual ++ "<lambda>"))) :: dz) H2 (k1.trans k2) t2 (fun p hp => ?_) ⟨dV, (X.mg "__name__").getD .none, c', od, ctv, List.mem_cons_self, List.mem_cons_of_mem _ List.mem_cons_self, ?_, fun p hp => ?_⟩⟩
    · rcases List.mem_cons.mp hp with rfl | hp
      · exact e1
      · rcases List.mem_cons.mp hp with rfl | hp
        · exact e2
        · obtain ⟨q1, q2⟩ := z1 p hp
          refine k2 _ _ q1 fun r hr z => ?_
          obtain ⟨ps', w1, _⟩ := t1 r hr
          rw [z, q1] at w1
          rw [Option.some.inj w1] at q2
          cases q2
    · rcases d1 with d1 | ⟨t, d1, d2, d3⟩
      · exact .inl d1
      · exact .inr ⟨t, d1, d2, List.mem_cons_of_mem _ (List.mem_cons_of_mem _ d3)⟩
    · rcases List.mem_cons.mp hp with rfl | hp
      · rfl
      · rcases List.mem_cons.mp hp with rfl | hp
        · rfl
        · exact (z1 p hp).2
  cases hp with
  | p0 =>
    show wpAny _ _ (do let dv ← evalAll []; let kdv ← holding dv (evalAllOpt []); makeFunction "<lambda>" (X.env.qual ++ "<lambda>") _ (.expr body) scope X.env dv kdv [] pos pos.line) _ _ _
    refine wpAny_bind (wpAny_pure (wpAny_bind (wpAny_holding (wpAny_pure ?_))))
    rw [makeFunction_eq]
    simp only [List.zip_nil_right, List.filterMap_nil, List.isEmpty_nil, if_true, pure_bind]
    exact make s H .none [] I (fun _ _ e _ => e) hT (fun _ hp => by cases hp) (.inl ⟨rfl, rfl⟩)
  | p1 a i j p p2 =>
    show wpAny _ _ (do let dv ← evalAll [eval (.Constant (.int i) j p2) X.env]; let kdv ← holding dv (evalAllOpt []); makeFunction "<lambda>" (X.env.qual ++ "<lambda>") _ (.expr body) scope X.env dv kdv [] pos pos.line) _ _ _
    refine wpAny_bind (wpAny_evalAll_cons (wpAny_Constant_int (wpAny_evalAll_nil ?_)))
    refine wpAny_bind (wpAny_holding (wpAny_pure ?_))
    rw [makeFunction_eq]
    simp only [List.zip_nil_right, List.filterMap_nil, List.isEmpty_nil, List.isEmpty_cons, Bool.false_eq_true, if_false, if_true, pure_bind]
    refine wpAny_bind (wpAny_newTextTuple ?_)
    have I0 := I.tok (s.toks + 1)
    have hn : H s.heap.objs.size = none := I.hok.fresh (Nat.le_refl _)
    refine make _ (upd H s.heap.objs.size (.tup [.int i])) _ [(s.heap.objs.size, .tup [.int i])] (I.laid (t' := s.toks + 1) (fun b o e => Heap.get?_push_of_some _ e) (Nat.le_refl _) ?_) (KeepT.laid hn) (hT.laid hn) (fun q hq => ?_) (.inr ⟨_, by simp, rfl, by simp⟩)
    · exact ⟨by show 1 ≤ sizeLine; decide, [_], .cons ⟨_, rfl⟩ .nil, ⟨_, Heap.get?_push_size _ rfl, rfl, _, rfl⟩⟩
    · rcases List.mem_cons.mp hq with rfl | hq
      · exact ⟨upd_same, rfl⟩
      · cases hq
end
end Zw

set_option Elab.async false
set_option linter.all false
set_option maxRecDepth 100000
set_option maxHeartbeats 4000000
namespace Zw
open PySem PySem.Spec PyProof.Rows L2
/-! ## cells that are known for a while -/
/-- known cells: each a cell's own object -/
def CzK (cz : Hp) : Prop := ∀ a o, cz a = some o → ∃ oc, o = .frz oc (.own 0) ∧ ∃ v, oc.data = .cell v
def less (cz H : Hp) : Hp := fun a => match cz a with | some _ => none | none => H a
theorem join_cz {cz H : Hp} {a : Addr} {o : HO} (e : cz a = some o) : join cz H a = some o := by unfold join; rw [e]
theorem join_no {cz H : Hp} {a : Addr} (e : cz a = none) : join cz H a = H a := by unfold join; rw [e]
theorem less_cz {cz H : Hp} {a : Addr} {o : HO} (e : cz a = some o) : less cz H a = none := by unfold less; rw [e]
theorem less_no {cz H : Hp} {a : Addr} (e : cz a = none) : less cz H a = H a := by unfold less; rw [e]
theorem cz_or (cz : Hp) (a : Addr) : (∃ o, cz a = some o) ∨ cz a = none := by
  cases cz a with
  | none => exact .inr rfl
  | some o => exact .inl ⟨o, rfl⟩
theorem less_some {cz H : Hp} {a : Addr} {o : HO} (e : less cz H a = some o) : cz a = none ∧ H a = some o := by
  rcases cz_or cz a with ⟨u, q⟩ | q
  · rw [less_cz q] at e; cases e
  · rw [less_no q] at e; exact ⟨q, e⟩
section
variable {P : Program} {w : World} {cz H H' : Hp} {h h' : Heap} {fs : List Addr}
theorem CzK.kind (k : CzK cz) {a : Addr} {o : HO} (e : cz a = some o) : (∀ x, o ≠ .own x) ∧ (∀ xs, o ≠ .tup xs) ∧ (∀ ps, o ≠ .tbl ps) := by
  obtain ⟨oc, rfl, _⟩ := k a o e
  exact ⟨(fun _ z => by cases z), (fun _ z => by cases z), (fun _ z => by cases z)⟩
/-- the known cells are forgotten -/
theorem hok_less (k : CzK cz) (sb : ∀ a o, cz a = some o → H a = some o) (x : HOk P w H h) : HOk P w (less cz H) h := fun a o e => by
  obtain ⟨n, e⟩ := less_some e
  have other : ∀ b u, H b = some u → (∀ oc v, u ≠ .frz oc v) → cz b = none := fun b u q hn => by
    rcases cz_or cz b with ⟨o', r⟩ | r
    · have := sb b o' r
      rw [q] at this
      cases this
      obtain ⟨oc, z, _⟩ := k b _ r
      exact absurd z (hn _ _)
    · exact r
  exact (x a o e).stay (fun _ _ _ q => q) (fun b q => by rw [less_no (other b _ q (fun _ _ z => by cases z))]; exact q) fun b xs q => by rw [less_no (other b _ q (fun _ _ z => by cases z))]; exact q
/-- .. and known again -/
theorem hok_join (k : CzK cz) (n : ∀ a o, cz a = some o → H a = none) (at_ : ∀ a oc u, cz a = some (.frz oc u) → h.get? a = some oc) (x : HOk P w H h) : HOk P w (join cz H) h := fun a o e => by
  rcases cz_or cz a with ⟨u, q⟩ | q
  · rw [join_cz q] at e
    cases e
    obtain ⟨oc, rfl, _⟩ := k a _ q
    exact ⟨at_ a _ _ q, ⟨oc, at_ a _ _ q⟩⟩
  · rw [join_no q] at e
    have other : ∀ b u, H b = some u → cz b = none := fun b u q => by
      rcases cz_or cz b with ⟨o', r⟩ | r
      · rw [n b o' r] at q; cases q
      · exact r
    exact (x a o e).stay (fun _ _ _ q => q) (fun b q => by rw [join_no (other b _ q)]; exact q) fun b xs q => by rw [join_no (other b _ q)]; exact q
/-- a run that knew nothing of the cells left them as they were -/
theorem un_join (k : CzK cz) (sb : ∀ a o, cz a = some o → H a = some o) (nf : ∀ a o, cz a = some o → a ∉ fs) (x : HOk P w H h) (u : Un fs [] (less cz H) H' h h') :
    (∀ a o, cz a = some o → H' a = none) ∧ (∀ a oc v, cz a = some (.frz oc v) → h'.get? a = some oc) ∧ Un fs [] H (join cz H') h h' := by
  have at0 : ∀ a oc v, cz a = some (.frz oc v) → h.get? a = some oc := fun a oc v e => (x a _ (sb a _ e)).1
  have z1 : ∀ a o, cz a = some o → H' a = none := fun a o e => by
    obtain ⟨oc, rfl, _⟩ := k a o e
    exact u.free a oc (at0 a oc _ e) (less_cz e) (by simp)
  have z2 : ∀ a oc v, cz a = some (.frz oc v) → h'.get? a = some oc := fun a oc v e => u.keep a oc (at0 a oc v e) (less_cz e) (nf a _ e) (by simp)
  have no : ∀ b, H b = none → cz b = none := fun b e => by
    rcases cz_or cz b with ⟨o', r⟩ | r
    · rw [sb b o' r] at e; cases e
    · exact r
  refine ⟨z1, z2, fun b o q n hb hx => u.keep b o q (by rw [less_no (no b n)]; exact n) hb hx, fun b o q n hb hx => u.slot b o q (by rw [less_no (no b n)]; exact n) hb hx, fun b o q n hx => ?_, u.there, fun b xs q => ?_, fun b o v q => ?_, fun b ps q => ?_⟩
  · rw [join_no (no b n)]
    exact u.free b o q (by rw [less_no (no b n)]; exact n) hx
  · rcases cz_or cz b with ⟨o', r⟩ | r
    · have := sb b o' r
      rw [q] at this
      cases this
      exact absurd rfl ((k.kind r).2.1 xs)
    · rw [join_no r]
      exact u.tups b xs (by rw [less_no r]; exact q)
  · rcases cz_or cz b with ⟨o', r⟩ | r
    · have := sb b o' r
      rw [q] at this
      cases this
      exact join_cz r
    · rw [join_no r]
      exact u.frzs b o v (by rw [less_no r]; exact q)
  · rcases cz_or cz b with ⟨o', r⟩ | r
    · have := sb b o' r
      rw [q] at this
      cases this
      exact absurd rfl ((k.kind r).2.2 ps)
    · rw [join_no r]
      exact u.tbls b ps (by rw [less_no r]; exact q)
/-- the same where an exception left -/
theorem ub_join {B : Heap} (k : CzK cz) (sb : ∀ a o, cz a = some o → H a = some o) (nf : ∀ a o, cz a = some o → a ∉ fs) (x : HOk P w H h) (u : UB fs (less cz H) H' h B h') :
    (∀ a o, cz a = some o → H' a = none) ∧ (∀ a oc v, cz a = some (.frz oc v) → B.get? a = some oc) ∧ UB fs H (join cz H') h B h' := by
  have at0 : ∀ a oc v, cz a = some (.frz oc v) → h.get? a = some oc := fun a oc v e => (x a _ (sb a _ e)).1
  have z1 : ∀ a o, cz a = some o → H' a = none := fun a o e => by
    obtain ⟨oc, rfl, _⟩ := k a o e
    exact u.free a oc (at0 a oc _ e) (less_cz e)
  have z2 : ∀ a oc v, cz a = some (.frz oc v) → B.get? a = some oc := fun a oc v e => u.keep a oc (at0 a oc v e) (less_cz e) (nf a _ e)
  have no : ∀ b, H b = none → cz b = none := fun b e => by
    rcases cz_or cz b with ⟨o', r⟩ | r
    · rw [sb b o' r] at e; cases e
    · exact r
  refine ⟨z1, z2, fun b o q n hb => u.keep b o q (by rw [less_no (no b n)]; exact n) hb, u.slot, fun b o q n => ?_, u.there, fun b xs q => ?_, fun b o v q => ?_, fun b ps q => ?_⟩
  · rw [join_no (no b n)]
    exact u.free b o q (by rw [less_no (no b n)]; exact n)
  · rcases cz_or cz b with ⟨o', r⟩ | r
    · have := sb b o' r
      rw [q] at this
      cases this
      exact absurd rfl ((k.kind r).2.1 xs)
    · rw [join_no r]
      exact u.tups b xs (by rw [less_no r]; exact q)
  · rcases cz_or cz b with ⟨o', r⟩ | r
    · have := sb b o' r
      rw [q] at this
      cases this
      exact join_cz r
    · rw [join_no r]
      exact u.frzs b o v (by rw [less_no r]; exact q)
  · rcases cz_or cz b with ⟨o', r⟩ | r
    · have := sb b o' r
      rw [q] at this
      cases this
      exact absurd rfl ((k.kind r).2.2 ps)
    · rw [join_no r]
      exact u.tbls b ps (by rw [less_no r]; exact q)
end
end Zw

set_option Elab.async false
set_option linter.all false
set_option maxRecDepth 100000
set_option maxHeartbeats 4000000
namespace Zw
open PySem PySem.Spec PyProof.Rows L2
/-! ## what a run stands in -/
structure Rt where
  P : Program
  w : World
  K : PySem.W.Frag
  mg : Str → Option Value
  base : Heap
def rtOf (X : Cx) : Rt := ⟨X.prog, X.w, X.K, X.mg, X.base⟩
/-- the callable at f keeps the promise sp, by at most level k -/
structure CallOk (R : Rt) (k : Nat) (f : Addr) (sp : Sp) : Prop where
  run : ∀ (X : Cx), rtOf X = R → Room k X.A → ∀ (pins : List (Addr × Obj)) (σ : L2.St) (H : Hp) (s : Shared) (Q : VK) (E : XK) (us : List Value) (vs : List V), Inv X pins σ H s → PassesAt (L2.CX X.prog X.w) X σ E → Vals vs us → sp vs H Q E →
    wpAny (model X.prog X.w) X.A (PySem.call (.ref f) us) (EP X pins σ Q) X.xe s

/-- a callable without written arguments at f, known by fz, keeps the promise sp -/
structure LamOk (R : Rt) (k : Nat) (f : Addr) (G : HP) (sp : Sp) : Prop where
  at_ : ∀ (P : Program) (w : World) (H : Hp) (h : Heap), HOk P w H h → G H → PySem.W.FnAt f h
  run : ∀ (X : Cx), rtOf X = R → Room k X.A → ∀ (pins : List (Addr × Obj)) (σ : L2.St) (H : Hp) (s : Shared) (Q : VK) (E : XK), Inv X pins σ H s → G H → PassesAt (L2.CX X.prog X.w) X σ E → sp [] H Q E →
    wpAny (model X.prog X.w) X.A (PySem.call (.ref f) []) (EP X pins σ Q) X.xe s
/-- the cells cz and the things fz are known -/
def knows (cz : Hp) (fz : List (Addr × HO)) : HP := fun H => (∀ a o, cz a = some o → H a = some o) ∧ ∀ p ∈ fz, H p.1 = some p.2
/-- the cells of X as they stand, the names' values by σ -/
structure CzOk (X : Cx) (σ : L2.St) (cz : Hp) : Prop where
  k : CzK cz
  cell : ∀ x c, X.env.cells.lookup x = some c → ∃ oc, cz c = some (.frz oc (.own 0)) ∧ ∀ (i : Nat) (v : V), X.N[i]? = some x → σ[i]? = some (some v) → (X.env.scope.names.lookup x = some .cell ∨ X.env.scope.names.lookup x = some .free) → ∃ u, RelV v u ∧ oc.data = .cell (some u)
  len : σ.length = X.N.length
  inj : ∀ x y c, X.env.cells.lookup x = some c → X.env.cells.lookup y = some c → x = y
  has : ∀ x, (X.env.kindOf x = some .cell ∨ X.env.kindOf x = some .free) → ∃ c, X.env.cells.lookup x = some c
section
variable {X : Cx} {σ : L2.St} {cz : Hp} {scope : Scope} {l : List (Str × Int)} {f c' : Addr}
theorem clo_sub {y : Str} {c : Addr} (ok : CzOk X σ cz) (L : LamSc X.N X.env.scope scope l) (e : (cloFrom X.env.cells scope.names []).lookup y = some c) : X.env.cells.lookup y = some c := by
  rcases cloFrom_mem (PySem.mem_of_lookup e) with hm | ⟨h1, h2⟩
  · cases hm
  · have : ∃ c1, X.env.cells.lookup y = some c1 := by
      rcases L.free _ h1 rfl with z | z
      · exact ok.has y (.inl z)
      · exact ok.has y (.inr z)
    obtain ⟨c1, hc⟩ := this
    rw [h2, hc] <;> rfl
theorem clo_has {y : Str} (hl : scope.names.lookup y = some .free) : ∃ c, (cloFrom X.env.cells scope.names []).lookup y = some c :=
  mem_lookup (cloFrom_has (cells := X.env.cells) (acc := []) (PySem.mem_of_lookup hl))
/-- a lambda's body begins -/
theorem lam_begin {A : Around} {outer : List Env} {s1 : Shared} {HZ : Hp} {E : XK} {h₁ : Heap} {tk : Nat} {m : Str → Option Value} (ok : CzOk X σ cz) (L : LamSc X.N X.env.scope scope l) (hk : X.env.globals = mainGlobals) (e0 : Env0 X.prog X.w X.K X.mg X.base A outer s1 HZ) (hd : A.handled = none)
    (sb : ∀ a o, cz a = some o → HZ a = some o) (hns : h₁.Ns s1.heap.objs.size m) (kp : ∀ b o, s1.heap.get? b = some o → h₁.get? b = some o) :
    Inv (LamX.lamCx X A outer s1 (less cz HZ) E scope f c') [] σ (less cz HZ) { s1 with heap := h₁, toks := tk } := by
  have at1 : ∀ a oc v, cz a = some (.frz oc v) → h₁.get? a = some oc := fun a oc v e => kp _ _ (e0.hok a _ (sb a _ e)).1
  have hok : HOk X.prog X.w (less cz HZ) s1.heap := hok_less ok.k sb e0.hok
  have noA : ∀ b : Addr, b ∉ (LamX.lamCx X A outer s1 (less cz HZ) E scope f c').ex := fun b z => absurd (show b ∈ ([] : List Addr) from z) (by simp)
  have nolocal : ∀ y, scope.names.lookup y = some .local → y ∉ X.N := fun y h => L.loc _ (PySem.mem_of_lookup h) rfl
  have nocell : ∀ y, scope.names.lookup y ≠ some .cell := fun y h => L.cell _ (PySem.mem_of_lookup h) rfl
  have ln : ∀ {b : Addr}, HZ b = none → less cz HZ b = none := fun {b} e => by
    rcases cz_or cz b with ⟨o, q⟩ | q
    · exact less_cz q
    · rw [less_no q]; exact e
  have okc : (LamX.lamCx X A outer s1 (less cz HZ) E scope f c').Ok := by
    refine ⟨e0.mod, L.kind, rfl, rfl, Nat.le_refl _, fun y z c e1 e2 => ok.inj y z c (clo_sub ok L e1) (clo_sub ok L e2), fun y hy => ?_, fun y c z _ => ?_, fun _ => hd, Around.frames_deeper e0.frames, .inr ⟨rfl, rfl⟩, fun b z => absurd z (noA b), fun b o e => ⟨(e0.bs b o e).1, ln (e0.bs b o e).2⟩, e0.bsz,
      fun b _ _ => noA b, fun b z => absurd z (noA b), e0.funs, fun b hb => ln (e0.frf b hb)⟩
    · have hy : scope.names.lookup y = some .cell ∨ scope.names.lookup y = some .free := hy
      rcases hy with hy | hy
      · exact absurd hy (nocell y)
      · exact clo_has hy
    · have z : false = true := z
      cases z
  refine ⟨okc, rfl, e0.bare, Un.kept kp, ⟨m, hns, fun i y v e1 e2 e3 => ?_⟩, fun y c e => ?_, ?_, fun y c e => ?_, fun q hq => absurd (show q ∈ ([] : List (Addr × Obj)) ++ [] from hq) (by simp), hok.kept kp, ok.len⟩
  · have e3 : Vis scope y := e3
    rcases e3 with z | z | z
    · exact absurd (List.mem_of_getElem? e1) (nolocal y z)
    · exact absurd z (nocell y)
    · obtain ⟨c, hc⟩ := clo_has (X := X) z
      obtain ⟨oc, q1, q2⟩ := ok.cell y c (clo_sub ok L hc)
      obtain ⟨u, r, d⟩ := q2 i v e1 e2 (L.free _ (PySem.mem_of_lookup z) rfl)
      exact ⟨u, r, .inr ⟨.inr z, c, hc, oc, at1 c oc _ q1, d⟩⟩
  · obtain ⟨oc, q1, _⟩ := ok.cell y c (clo_sub ok L e)
    obtain ⟨oc2, e2, w, d⟩ := ok.k c _ q1
    cases e2
    exact ⟨w, oc, at1 c oc _ q1, d⟩
  · exact ln (e0.hok.fresh (Nat.le_refl _))
  · obtain ⟨oc, q1, _⟩ := ok.cell y c (clo_sub ok L e)
    exact less_cz q1
/-- what a lambda promises, by the reading t of its body at the maker's slots -/
def spLam (t : XK → TE) (σ : L2.St) (cz : Hp) : Sp := fun vs H Q Ex => vs = [] ∧ t (fun cls d H' => (∀ a o, cz a = some o → H' a = none) → Ex cls d (join cz H')) σ (less cz H) fun v H' => (∀ a o, cz a = some o → H' a = none) → Q v (join cz H')
theorem lam_bind0 {qual : Str} {body : Expr} {cl : List (Str × Addr)} {pm cv ctv : Value} : bindArgs (lamFd qual ⟨[], [], none, [], [], none, []⟩ body scope cl .none pm cv ctv) ⟨[], []⟩ = pure [] := rfl
theorem lam_bind1 {qual : Str} {body : Expr} {cl : List (Str × Addr)} {pm cv ctv : Value} {t : Addr} {a : Str} {i : Int} {j : Nat} {p p2 : Pos} (u : Value) : ∃ k, bindArgs (lamFd qual ⟨[], [⟨a, none, p⟩], none, [], [], none, [.Constant (.int i) j p2]⟩ body scope cl (.ref t) pm cv ctv) ⟨[], []⟩ = seqItems? (.ref t) >>= k ∧ k (some [u].toArray) = pure [(a, u)] := by
  refine ⟨_, rfl, ?_⟩
  simp [List.zip, List.lookup]
end
end Zw

set_option Elab.async false
set_option linter.all false
set_option maxRecDepth 100000
set_option maxHeartbeats 4000000
namespace Zw
open PySem PySem.Spec PyProof.Rows L2
section
variable {X : Cx} {σ : L2.St} {cz : Hp} {scope : Scope} {l : List (Str × Int)} {f : Addr} {fz : List (Addr × HO)} {params : Arguments} {body : Expr} {j : Nat} {t : XK → TE}
theorem cx_join {P : Program} {w : World} {outer : List Env} {H : Hp} {s : Shared} {E : XK} {u : Value} {s' : Shared} (k : CzK cz) (sb : ∀ a o, cz a = some o → H a = some o) (nf : ∀ a o, cz a = some o → a ∉ frs outer) (x : HOk P w H s.heap)
    (c : L2.CX P w outer (less cz H) s (fun cls d H2 => (∀ a o, cz a = some o → H2 a = none) → E cls d (join cz H2)) u s') : L2.CX P w outer H s E u s' := by
  obtain ⟨a, B, H2, cls, d, rfl, fl, hok, ub, na, os, ag, e⟩ := c
  obtain ⟨z1, z2, z3⟩ := ub_join k sb nf x ub
  refine ⟨a, B, join cz H2, cls, d, rfl, fl, hok_join k z1 z2 hok, z3, ?_, os, ag, e z1⟩
  rcases cz_or cz a with ⟨o, q⟩ | q
  · obtain ⟨oc, rfl, _⟩ := k a o q
    have h1 := z2 a oc _ q
    have h2 := fl.2.1
    rw [h1] at h2
    cases h2
  · rw [join_no q]
    exact na
/-- a made lambda keeps its body's promise wherever its cells are known -/
theorem lamOk_of (ok : CzOk X σ cz) (M : MadeBy X params body scope l f fz) (hp : LPar params l) (L : LamSc X.N X.env.scope scope l) (hg : X.env.globals = mainGlobals)
    (hb : ∀ (A : Around) (outer : List Env) (s : Shared) (H : Hp) (E : XK) (f c' : Addr), Room j (A.deeper (LamX.lamEnv X scope s.heap.objs.size f c')) → PE (LamX.lamCx X A outer s H E scope f c') body (t E)) :
    LamOk (rtOf X) (j + 1) f (knows cz fz) (spLam t σ cz) := by
  obtain ⟨dV, pm, c', od, ctv, m1, m2, m3, _⟩ := M
  refine ⟨fun P w H h x G => ?_, fun X' eX hr pins σ' H s Q E I G hx hq => ?_⟩
  · obtain ⟨e, _⟩ := x f _ (G.2 _ m1)
    exact ⟨_, _, _, _, e⟩
  · obtain ⟨G1, G2⟩ := G
    obtain ⟨_, hq⟩ := hq
    have hP : X'.prog = X.prog := congrArg Rt.P eX
    have hw : X'.w = X.w := congrArg Rt.w eX
    have hK : X'.K = X.K := congrArg Rt.K eX
    have hmg : X'.mg = X.mg := congrArg Rt.mg eX
    have hbs : X'.base = X.base := congrArg Rt.base eX
    have e0 : Env0 X.prog X.w X.K X.mg X.base X'.A X'.stack s H := by
      have := I.env0
      rw [hP, hw, hK, hmg, hbs] at this
      exact this
    have of1 : s.heap.get? f = some (lamO (X.env.qual ++ "<lambda>") params body scope (cloFrom X.env.cells scope.names []) dV pm (.ref c') ctv) := (e0.hok f _ (G2 _ m1)).1
    obtain ⟨_, ⟨oc, vs, tk, hoc, hdc, hvc⟩, _, _⟩ := e0.hok c' _ (G2 _ m2)
    have nf : ∀ a o, cz a = some o → a ∉ frs X'.stack := fun a o e hm => by
      have := e0.frf a hm
      rw [G1 a o e] at this
      cases this
    have lim : s.heap.NoLimit := I.nolimit
    -- the body, in its frame
    have inner : ∀ (binds : List (Str × Value)) (s1 : Shared), s1 = s → (∀ y ∈ binds, scope.names.lookup y.1 = some .local) → wpAny (model X.prog X.w) X'.A.in1
        (newFunctionEnv scope mainGlobals (cloFrom X.env.cells scope.names []) binds ((X.env.qual ++ "<lambda>") ++ ".<locals>.") (some f) (.ref c') none builtinsNs)
        (fun env s₂ => s₂.heap.NoLimit ∧ codeAny (model X.prog X.w) X'.A (.expr body env) (CR (L2.CX X.prog X.w) X'.stack X.prog X.w H s Q E) s₂) (fun e s' => CR (L2.CX X.prog X.w) X'.stack X.prog X.w H s Q E (.error e) s') s1 := by
      intro binds s1 e1 hl
      subst e1
      refine wpAny_newFunctionEnv (fun y hy => L.cell y hy) hl (fun h₁ hns hsb => ⟨lim.fresh _ hsb, ?_⟩) L.kind
      show codeAny _ _ (.expr body (LamX.lamEnv X scope s1.heap.objs.size f c')) _ _
      have kp : ∀ b o, s1.heap.get? b = some o → h₁.get? b = some o := fun b o e => hsb.extBut b o (Nat.ne_of_lt (Heap.lt_size e)) (Heap.get?_push_of_some _ e)
      have J : Inv (LamX.lamCx X X'.A X'.stack s1 (less cz H) (fun cls d H2 => (∀ a o, cz a = some o → H2 a = none) → E cls d (join cz H2)) scope f c') [] σ (less cz H) { s1 with heap := h₁, toks := s1.toks + binds.length } := lam_begin ok L hg e0 hr.hd G1 hns kp
      refine PySem.W.kla_codeExpr (wpAny_mono ((hb _ _ s1 _ _ f c' (hr.deeper _)).run [] _ _ _ _ J hq) (fun v s' hv => ?_) fun e s' he => ?_)
      · obtain ⟨w', H2, J', rv, q⟩ := hv
        obtain ⟨z1, z2, z3⟩ := un_join ok.k G1 nf e0.hok (show Un (frs X'.stack) [] (less cz H) H2 s1.heap s'.heap from J'.base)
        exact ⟨w', join cz H2, J'.os, J'.bare, z3, hok_join ok.k z1 z2 J'.hok, rv, q z1⟩
      · exact wpAny_mono (show wpAny _ _ _ (fun _ s'' => L2.CX X.prog X.w X'.stack (less cz H) s1 (fun cls d H2 => (∀ a o, cz a = some o → H2 a = none) → E cls d (join cz H2)) e s'') (fun e' s'' => L2.CX X.prog X.w X'.stack (less cz H) s1 (fun cls d H2 => (∀ a o, cz a = some o → H2 a = none) → E cls d (join cz H2)) e' s'') s' from he)
          (fun _ s'' q => cx_join ok.k G1 nf e0.hok q) fun _ s'' q => cx_join ok.k G1 nf e0.hok q
    have rc : codeAny (model X'.prog X'.w) X'.A (.call (.ref f) ⟨[], []⟩) (CR (L2.CX X'.prog X'.w) X'.stack X'.prog X'.w H s Q E) s := by
      rw [hP, hw]
      refine PySem.W.kla_callFunE hr.depth of1 rfl L.co L.gen rfl ⟨c', oc, vs, tk, rfl, hoc, hdc, hvc⟩ ?_
      cases hp with
      | p0 =>
        rcases m3 with ⟨_, rfl⟩ | ⟨_, z, _⟩
        · rw [lam_bind0]
          exact wpAny_pure (inner [] s rfl (fun y hy => by cases hy))
        · exact absurd rfl z
      | p1 a i jj p p2 =>
        rcases m3 with ⟨z, _⟩ | ⟨tt, _, rfl, ht⟩
        · cases z
        · obtain ⟨_, its, rv, o, h1, h2, n, h3⟩ := e0.hok tt _ (G2 _ ht)
          cases rv with
          | cons r1 r2 =>
            cases r2
            rename_i u
            obtain ⟨k, e1, e2⟩ := lam_bind1 (scope := scope) (qual := X.env.qual ++ "<lambda>") (body := body) (cl := cloFrom X.env.cells scope.names []) (pm := pm) (cv := .ref c') (ctv := ctv) (t := tt) (a := a) (i := i) (j := jj) (p := p) (p2 := p2) u
            rw [e1]
            refine wpAny_bind (wpAny_seqItems h1 h3 ?_)
            rw [e2]
            refine wpAny_pure (inner [(a, u)] s rfl (fun y hy => ?_))
            rcases List.mem_cons.mp hy with rfl | hy
            · exact (L.par (a, i) List.mem_cons_self).1
            · cases hy
    refine wpAny_call (codeAny_mono rc fun r s' hq' => ?_)
    cases r with
    | error e => exact hx pins H s e s' I hq'
    | ok fl =>
      cases fl with
      | ret u => exact I.after hq'
      | next => exact False.elim hq'
      | brk => exact False.elim hq'
      | cont => exact False.elim hq'
/-! ## a call to which lambdas are handed: the cells are known meanwhile -/
structure CallEnv (R : Rt) (k : Nat) (f : Addr) (sp : Sp) : Prop where
  run : ∀ (A : Around) (outer : List Env) (s : Shared) (H : Hp) (us : List Value) (vs : List V) (Q : VK), Room k A → Env0 R.P R.w R.K R.mg R.base A outer s H → Vals vs us → sp vs H Q (fun _ _ _ => False) →
    codeAny (model R.P R.w) A (.call (.ref f) ⟨us, []⟩) (CR (L2.CX R.P R.w) outer R.P R.w H s Q fun _ _ _ => False) s
theorem CallEnv.fn {R : Rt} {i k : Nat} {f : Addr} {fd : FuncData} {ps : List Str} {sp : Sp} (F : FnOk R.P R.w R.K R.mg R.base (L2.CX R.P R.w) i f fd ps sp) (hb : Binds R.K fd ps []) (h : i ≤ k) : CallEnv R k f sp :=
  ⟨fun A outer s H us vs Q hr e0 r q => by
    have hl : us.length = ps.length := by rw [← r.length]; exact F.len _ _ _ _ q
    have b := hb s us (e0.mod.kin.keeps fun b o e => (e0.bs b o e).1) (by rw [List.append_nil]; exact hl)
    rw [List.append_nil] at b
    exact F.run A outer s H ⟨us, []⟩ us vs Q _ (hr.mono h) e0 b r q⟩
open Classical in
noncomputable def czOf (X : Cx) (s : Shared) : Hp := fun a => if ∃ x, X.env.cells.lookup x = some a then (s.heap.get? a).map fun o => HO.frz o (.own 0) else none
theorem czOf_some {s : Shared} {a : Addr} {o : HO} (e : czOf X s a = some o) : (∃ x, X.env.cells.lookup x = some a) ∧ ∃ oc, s.heap.get? a = some oc ∧ o = .frz oc (.own 0) := by
  unfold czOf at e
  split at e
  · rename_i hx
    obtain ⟨oc, h1, h2⟩ := Option.map_eq_some_iff.mp e
    exact ⟨hx, oc, h1, h2.symm⟩
  · cases e
theorem czOf_at {s : Shared} {x : Str} {c : Addr} {oc : Obj} (h : X.env.cells.lookup x = some c) (e : s.heap.get? c = some oc) : czOf X s c = some (.frz oc (.own 0)) := by
  unfold czOf
  rw [if_pos ⟨x, h⟩, e] <;> rfl
theorem czOk {pins : List (Addr × Obj)} {H : Hp} {s : Shared} (I : Inv X pins σ H s) : CzOk X σ (czOf X s) := by
  refine ⟨fun a o e => ?_, fun x c hc => ?_, I.len, fun x y c a b => I.ok.inj x y c a b, fun x h => I.ok.has x h⟩
  · obtain ⟨⟨x, hx⟩, oc, h1, rfl⟩ := czOf_some e
    obtain ⟨v, o2, e2, d⟩ := I.cell x a hx
    rw [h1] at e2
    cases e2
    exact ⟨oc, rfl, v, d⟩
  · obtain ⟨v, oc, e2, d⟩ := I.cell x c hc
    refine ⟨oc, czOf_at hc e2, fun i v' h1 h2 h3 => ?_⟩
    obtain ⟨m, hn, hl⟩ := I.loc
    obtain ⟨u, r, lk⟩ := hl i x v' h1 h2 (h3.elim (fun z => .inr (.inl z)) fun z => .inr (.inr z))
    rcases lk with ⟨z, _⟩ | ⟨_, c2, hc2, oc2, e3, d3⟩
    · have z : X.env.scope.names.lookup x = some .local := z
      rcases h3 with h3 | h3 <;> (rw [h3] at z; cases z)
    · rw [hc] at hc2
      cases hc2
      rw [e2] at e3
      cases e3
      exact ⟨u, r, d3⟩
/-- the callee runs while the cells are known -/
theorem run_z {k : Nat} {g : Addr} {sp : Sp} {pins : List (Addr × Obj)} {H : Hp} {s : Shared} {Q : VK} {us : List Value} {vs : List V} (F : CallEnv (rtOf X) k g sp) (hr : Room k X.A) (hfn : ∀ x, X.fn x = true) (I : Inv X pins σ H s) (r : Vals vs us)
    (h : sp vs (join (czOf X s) H) (fun v H2 => (∀ a o, czOf X s a = some o → H2 a = some o) → Q v (less (czOf X s) H2)) fun _ _ _ => False) :
    wpAny (model X.prog X.w) X.A (PySem.call (.ref g) us) (EP X pins σ Q) X.xe s := by
  have ck := (czOk I).k
  have cn : ∀ a o, czOf X s a = some o → H a = none := fun a o e => by
    obtain ⟨⟨x, hx⟩, _⟩ := czOf_some e
    exact I.freeC x a hx
  have ca : ∀ a o, czOf X s a = some o → X.s_0.heap.objs.size ≤ a := fun a o e => by
    obtain ⟨⟨x, hx⟩, _⟩ := czOf_some e
    exact I.ok.cab x a (hfn x) hx
  have cg : ∀ a oc u, czOf X s a = some (.frz oc u) → s.heap.get? a = some oc := fun a oc u e => by
    obtain ⟨_, oc2, h1, h2⟩ := czOf_some e
    cases h2
    exact h1
  have cf : ∀ a o, czOf X s a = some o → a ∉ frs X.stack := fun a o e hm => by
    obtain ⟨⟨x, hx⟩, _⟩ := czOf_some e
    rcases List.mem_cons.mp (I.stkSub a hm) with z | z
    · exact I.cne x a hx z
    · obtain ⟨_, o2, e2, _⟩ := I.ok.funs.mem z
      exact absurd (Nat.lt_of_lt_of_le (Heap.lt_size e2) (ca a o e)) (Nat.lt_irrefl _)
  have e0 := I.env0
  have e1 : Env0 X.prog X.w X.K X.mg X.base X.A X.stack s (join (czOf X s) H) := by
    refine ⟨e0.frames, e0.mod, fun b o e => ⟨(e0.bs b o e).1, ?_⟩, e0.bsz, e0.funs, fun b hb => ?_, hok_join ck cn cg I.hok, e0.bare⟩
    · rcases cz_or (czOf X s) b with ⟨u, q⟩ | q
      · exact absurd (Nat.lt_of_lt_of_le (Heap.lt_size (I.ok.bs b o e).1) (ca b u q)) (Nat.lt_irrefl _)
      · rw [join_no q]
        exact (e0.bs b o e).2
    · rcases cz_or (czOf X s) b with ⟨u, q⟩ | q
      · exact absurd hb (cf b u q)
      · rw [join_no q]
        exact e0.frf b hb
  refine wpAny_call (codeAny_mono (F.run X.A X.stack s _ us vs _ hr e1 r h) fun r s' hq => ?_)
  cases r with
  | error e =>
    obtain ⟨_, _, _, _, _, _, _, _, _, _, _, _, z⟩ := (show L2.CX X.prog X.w X.stack _ s (fun _ _ _ => False) e s' from hq)
    exact z.elim
  | ok fl =>
    cases fl with
    | ret u =>
      obtain ⟨v, H2, os, bare, un, hok, rv, q⟩ := hq
      have un : Un (frs X.stack) [] (join (czOf X s) H) H2 s.heap s'.heap := un
      have kept : ∀ a o, czOf X s a = some o → H2 a = some o := fun a o e => by
        obtain ⟨oc, rfl, _⟩ := ck a o e
        exact un.frzs a oc _ (join_cz e)
      have no : ∀ {b : Addr} {o : HO}, H b = some o → czOf X s b = none := fun {b o} e => by
        rcases cz_or (czOf X s) b with ⟨u, q⟩ | q
        · rw [cn b u q] at e; cases e
        · exact q
      have hokq : HOk X.prog X.w H2 s'.heap := hok
      refine ⟨v, less (czOf X s) H2, I.call' (ch := []) os ⟨fun b o e n hb hx => ?_, fun b o e n hb hx => ?_, fun b o e n hx => ?_, un.there, fun b xs e => ?_, fun b o u e => ?_, fun b ps e => ?_⟩ (hok_less ck kept hokq) bare (fun b z => absurd z (by simp)), rv, q kept⟩
      · rcases cz_or (czOf X s) b with ⟨u, q⟩ | q
        · obtain ⟨oc, rfl, _⟩ := ck b u q
          have := cg b oc _ q
          rw [e] at this
          cases this
          exact (hokq b _ (kept b _ q)).1
        · exact un.keep b o e (by rw [join_no q]; exact n) hb hx
      · rcases cz_or (czOf X s) b with ⟨u, q⟩ | q
        · exact absurd hb (cf b u q)
        · exact un.slot b o e (by rw [join_no q]; exact n) hb hx
      · rcases cz_or (czOf X s) b with ⟨u, q⟩ | q
        · exact less_cz q
        · rw [less_no q]
          exact un.free b o e (by rw [join_no q]; exact n) hx
      · rw [less_no (no e)]
        exact un.tups b xs (by rw [join_no (no e)]; exact e)
      · rw [less_no (no e)]
        exact un.frzs b o u (by rw [join_no (no e)]; exact e)
      · rw [less_no (no e)]
        exact un.tbls b ps (by rw [join_no (no e)]; exact e)
    | next => exact False.elim hq
    | brk => exact False.elim hq
    | cont => exact False.elim hq
end
end Zw

set_option Elab.async false
set_option linter.all false
set_option maxRecDepth 100000
set_option maxHeartbeats 4000000
namespace Zw
open PySem PySem.Spec PyProof.Rows L2
/-! ## d.update(e); x, *y = a list -/
/-- the same walk, from a later item on -/
theorem walks_from {prog : Program} {w : World} {A : Around} {I : Addr} {fp wr : List Addr} {n m k : Nat} {P : Nat → Value → Prop} {St : Nat → Heap → Prop} (W : Walks prog w A I fp wr n P St) (e : k + m = n) :
    Walks prog w A I fp wr m (fun i v => P (k + i) v) (fun i h => St (k + i) h) where
  sub := W.sub
  frame := fun i h h' st q => W.frame (k + i) h h' st q
  item := fun i s Q E hi st hQ => W.item (k + i) s Q E (by omega) st fun v h' tk p st' q => hQ v h' tk p st' q
  done := fun s Q E st hQ => W.done s Q E (by rw [← e]; exact st) hQ
  self := fun i s Q E st hQ => W.self (k + i) s Q E st hQ
section
variable {prog : Program} {w : World} {A : Around} {E : Value → Shared → Prop} {s : Shared}
theorem unpack_star {l : Addr} {v : Value} {rest : List Value} {Q : List Value → Shared → Prop} (hh : A.handled = none) (hl : s.heap.IsList l (v :: rest).toArray) (hz : rest.length + 1 ≤ sizeLine)
    (hQ : ∀ (h' : Heap) tk gs, gs = s.gens → (∀ b o, s.heap.get? b = some o → h'.get? b = some o) → Q [v, .ref h'.objs.size] { s with heap := h'.push { cls := .type "list", data := .seq rest.toArray }, toks := tk, gens := gs }) :
    wpAny (model prog w) A (unpackItems (.ref l) 2 (some 1)) Q E s := by
  have hlt : l < s.heap.objs.size := by obtain ⟨o, ho, _⟩ := hl; exact Heap.lt_size ho
  have hne : l ≠ s.heap.objs.size := Nat.ne_of_lt hlt
  unfold unpackItems
  refine wpAny_bind ?_
  unfold notIterableAtAll
  refine wpAny_bind (wpAny_specialOf hl.typeIs slot_list_iter.lookup ?_)
  refine wpAny_pure ?_
  simp only [Bool.false_eq_true, if_false]
  refine wpAny_bind (wpAny_holding (wpAny_pyIter_list hl ?_))
  refine wpAny_bind (wpAny_holding (PySem.W.kun_draw hne 1 0 _ _ ⟨_, Heap.get?_push_size _ rfl, rfl, rfl⟩ (hl.push _) (by simp) fun h₁ hit₁ hs₁ => ?_))
  have e1 : List.take 1 (List.drop 0 (v :: rest).toArray.toList) = [v] := by simp
  rw [e1]
  rw [if_neg (by simp)]
  have hl₁ : h₁.IsList l (v :: rest).toArray := (hl.push _).extBut hs₁.extBut hne
  have kp : ∀ b o, s.heap.get? b = some o → h₁.get? b = some o := fun b o e => hs₁.extBut b o (Nat.ne_of_lt (Heap.lt_size e)) (Heap.get?_push_of_some _ e)
  refine wpAny_bind (wpAny_holding ?_)
  have W := walks_from (k := 1) (m := rest.length) (Walks.list (prog := prog) (w := w) (A := A.in1) hh s.heap.objs.size l hne (v :: rest).toArray) (by simp; omega)
  have big : s.heap.objs.size < h₁.objs.size := by
    obtain ⟨o, ho, _⟩ := hit₁
    exact Heap.lt_size ho
  refine wpAny_collect_iter (.inr (.inr (.inl rfl))) W.toS (fun i s' st => ?_) ⟨hit₁, hl₁⟩ (fun b hb => ?_) (by simp) (fun s' acc mv ha => ?_) (by omega)
  · obtain ⟨⟨o, ho, hc, _⟩, _⟩ := st
    exact ⟨o, ho, hc⟩
  · rcases List.mem_cons.mp hb with rfl | hb
    · exact big
    · obtain rfl := List.mem_singleton.mp hb
      exact Nat.lt_trans hlt big
  · have ea : acc.toList = rest := by
      obtain ⟨a1, a2⟩ := ha
      apply List.ext_getElem?
      intro i
      by_cases hi : i < rest.length
      · have hi' : i < acc.size := by omega
        have : (v :: rest).toArray[1 + i]? = some acc[i] := a2 i acc[i] (by simp [hi'])
        have e : (v :: rest).toArray[1 + i]? = rest[i]? := by simp [Nat.add_comm 1 i]
        rw [e] at this
        rw [this]
        simp [hi']
      · rw [List.getElem?_eq_none_iff.mpr (by simp; omega), List.getElem?_eq_none_iff.mpr (by omega)]
    rw [ea]
    show wpAny _ _ (if rest.length < 0 then _ else _) _ _ _
    rw [if_neg (by omega)]
    refine wpAny_bind ?_
    have e2 : List.take (rest.length - (2 - 1 - 1)) rest = rest := by simp
    rw [e2]
    obtain ⟨h2, g2, d2, t2, o2⟩ := s'
    have m1 := mv.heap
    have m2 := mv.gens
    have m3 := mv.drawn
    have m4 := mv.os
    dsimp only at m1 m2 m3 m4
    refine wpAny_newList ?_ (by omega)
    refine wpAny_pure ?_
    have e3 : List.drop (rest.length - (2 - 1 - 1)) rest = [] := by simp
    rw [e3]
    have := hQ h2 t2 g2 m2 fun b o e => m1 b o (fun hb => by
      obtain rfl := List.mem_singleton.mp hb
      exact Nat.lt_irrefl _ (Heap.lt_size e)) (kp b o e)
    rw [m3, m4]
    exact this
end
section
variable {X : Cx} {σ : L2.St}
theorem putK_le_len (kvs : List (Key × V)) (k : Key) (v : V) : (putK kvs k v).length ≤ kvs.length + 1 := by
  unfold putK
  split <;> simp
theorem m_update : MtR X "dict.update" (fun x vs H Q => ∃ a b kvs more, x = .ref a ∧ vs = [.ref b] ∧ a ≠ b ∧ H a = some (.dK kvs) ∧ H b = some (.dK more) ∧ kvs.length + more.length ≤ sizeLine ∧ Q .non (upd H a (.dK (mergeK kvs more)))) := by
  intro pins s σ H x xs v us Q I rx rs q
  obtain ⟨a, b, kvs, more, rfl, rfl, hne, ea, eb, hz, q⟩ := q
  obtain rfl : v = Value.ref a := rx
  obtain ⟨u, rfl, ru⟩ := Vals.one rs
  obtain rfl : u = Value.ref b := ru
  obtain ⟨z, hd, vs, rel, dd⟩ := dk_of I.hok ea
  obtain ⟨z2, hd2, ws, rel2, dd2⟩ := dk_of I.hok eb
  refine call_meetsIn PySem.F.slot_dict_update dd.typeIs PySem.F.entry_dict_update (PySem.F.args_dict_update_2 _ _) (meets_dict_update (mixKind X.prog X.w) a b hne hd2)
    ⟨vs, ws, dd, dd2, by rw [← rel.length, ← rel2.length]; exact hz, fun h' hmm _ hs => ?_⟩
  have he : ∃ q, h'.get? a = some q := let ⟨q, _, _, hq, _⟩ := hmm; ⟨q, hq⟩
  have len : ∀ (more kvs : List (Key × V)), (mergeK kvs more).length ≤ kvs.length + more.length := by
    intro more
    induction more with
    | nil => intro kvs; exact Nat.le_refl _
    | cons p r ih =>
      intro kvs
      have h1 := ih (putK kvs p.1 p.2)
      have h2 := putK_le_len kvs p.1 p.2
      show (mergeK (putK kvs p.1 p.2) r).length ≤ _
      simp only [List.length_cons]
      omega
  exact ⟨.non, _, d_write (t' := s.toks) I (by rw [ea]; exact True.intro) hs he (dk_new (Nat.le_trans (len more kvs) hz) hd (rel2.merge rel) hmm), rfl, q⟩
end
end Zw

set_option Elab.async false
set_option linter.all false
set_option maxRecDepth 100000
set_option maxHeartbeats 4000000
namespace Zw
open PySem PySem.Spec PyProof.Rows L2
/-! ## refusals that know the name of their class -/
/-- the class at C has its name as it was made -/
structure NameC (K : PySem.W.Frag) (C : Addr) (nm : Str) : Prop where
  rd : PySem.W.readsIn K C (.type "type") = true
  at_ : PySem.W.findCls K (.ref C) (.type "type") "__name__" = some (.get (.builtin "getset_descriptor.__get__") (.builtin "type.__name__") (.ref C) (.type "type"))
  kept : ∃ o tk, K.lookup C = some o ∧ o.slots[2]? = some (some (.str nm tk))
section
open PySem.W PySem.Calls Builtin Builtin.ObjectAttr Builtin.Getset_descriptor
variable {prog : Program} {w : World} {A : Around} {E : Value → Shared → Prop} {s : Shared} {K : Frag} {R : Result → Shared → Prop}
theorem dga_ref (d tp : Value) (C : Addr) : descrGetArgs ⟨[d, .ref C, tp], []⟩ = pure (d, some (.ref C), given tp) := by kernel_rfl
theorem name_get {C : Addr} {tp v : Value} {o : Obj} (X : K.In s.heap) (ht : typeIn K (.ref C) = some (.type "type")) (l : K.lookup C = some o) (hs : o.slots[2]? = some (some v)) (h : R (.ok (.ret v)) s) :
    codeAny (model prog w) A (.call (.builtin "getset_descriptor.__get__") ⟨[.builtin "type.__name__", .ref C, tp], []⟩) R s := by
  obtain ⟨hh, g, dr, t, os⟩ := s
  have L0 : Looks (model prog w) hh (typeOf (.ref C)) (.type "type") := looks_typeIn X ht
  have L1 : Looks (model prog w) hh (isSubtype (.type "type") (.type "type")) true := Looks.of_pure (by rw [isSubtype_type]; kernel_rfl)
  refine codeAny_call_builtin KF.slot_gs.plain KF.entry_gs (KF.slot_gs.check _ _ _ _ _ _ _ _ ktyn_type (KF.args_gs _ _ _) ?_)
  unfold Builtin.«getset_descriptor.__get__» descrGet
  rw [dga_ref]
  refine wpAny_bind (wpAny_pure ?_)
  unfold descrGetter descrCheckInstance descrNameAndClass isInstance
  simp only [ktyn_owner]
  repeat lk
  refine ⟨Code.quiet_builtin _ (by decide +kernel), codeAny_builtin ktyn_entry ?_⟩
  unfold Builtin.«type.__name__»
  dsimp only
  unfold Builtin.keptObject PySem.slotAt
  refine wpAny_bind (wpAny_bind (wpAny_loadPart (X _ _ l) (wpAny_pure ?_)))
  rw [hs]
  exact wpAny_pure h
theorem cls_name {C : Addr} {nm : Str} {expr : Bool} {Q : Value → Shared → Prop} (X : K.In s.heap) (N : NameC K C nm) (h : ∀ tk u, Q (.str nm tk) { s with toks := u }) : wpAny (model prog w) A (getAttr (.ref C) "__name__" expr) Q E s := by
  obtain ⟨o, tk, l, hs⟩ := N.kept
  have ht : typeIn K (.ref C) = some (.type "type") := by
    have := N.rd
    simp only [readsIn, Bool.and_eq_true, beq_iff_eq] at this
    exact this.1.1.1.2
  refine cls_bind X N.rd N.at_ (wpAny_call (name_get (s := { s with toks := s.toks + 1 }) X ht l hs ?_))
  exact handed_on rfl (h _ _)
/-- e.__class__ of an exception of an own class -/
theorem exc_cls {x D : Addr} {ox : Obj} {od : Option Obj} {expr : Bool} {Q : Value → Shared → Prop} (C : ExcC K D) (X : K.In s.heap) (I : InstAt s.heap x ox D od) (h : Q (.ref D) { s with toks := s.toks + 1 }) : wpAny (model prog w) A (getAttr (.ref x) "__class__" expr) Q E s := by
  have hf : findObj K D od "__class__" = some (.bind (.builtin "getset_descriptor.__get__") (.builtin "object.__class__")) := by
    obtain ⟨cd, hc⟩ := Option.isSome_iff_exists.mp (show (clsIn K D).isSome = true by obtain ⟨cd, hc, _⟩ := any_some C.hd; rw [hc]; rfl)
    unfold findObj
    rw [hc, Option.bind_some, C.ha, Option.bind_some]
    simp [C.hn, C.ht]
  obtain ⟨hp, g, d, t, os⟩ := s
  have L0 := I.type (M := model prog w)
  have L1 := looks_findIn (M := model prog w) X C.hg
  have L2 := looks_findIn (M := model prog w) X C.hk
  have L3 := looks_find (M := model prog w) X I hf
  have sub : Looks (model prog w) hp (isInstance (.ref x) (.type "BaseException")) true := L0.andThen (looks_subIn X C.hs)
  have hx0 : (expr && onTheHeap (Value.builtin "BaseException.__getattribute__")) = false := by cases expr <;> rfl
  have hx2 : (Value.builtin "BaseException.__getattribute__" == Value.builtin "object.__getattribute__") = false := by decide +kernel
  have hx1 : (onTheHeap (Value.ref D) && Value.builtin "BaseException.__getattribute__" == Value.builtin "object.__getattribute__") = false := by rw [hx2]; rfl
  unfold getAttr getAttrBy
  refine wpAny_bind (wpAny_mkText (wpAny_holding (wpAny_bind (L0.at (wpAny_bind (L1.at ?_))))))
  show wpAny _ _ (if (onTheHeap (Value.ref D) && Value.builtin "BaseException.__getattribute__" == Value.builtin "object.__getattribute__") = true then _ else _) _ _ _
  rw [hx1, if_neg Bool.false_ne_true]
  unfold getAttrByItsOwn hookBefore
  refine wpAny_bind ?_
  rw [if_pos (show onTheHeap (Value.ref D) = true from rfl)]
  refine L2.at ?_
  refine wpAny_bind (wpAny_attempt (wpAny_holding ?_))
  unfold callGetattribute
  rw [hx0, if_neg Bool.false_ne_true]
  unfold boundAndCalled
  rw [PySem.F.excAttr_ValueError.ga.bind (.ref x)]
  refine wpAny_bind (wpAny_pure ?_)
  show wpAny _ _ (call (.builtin "BaseException.__getattribute__") [.ref x, .str "__class__" t]) _ _ _
  refine wpAny_call (codeAny_call_builtin PySem.F.excAttr_ValueError.ga.plain PySem.F.entry_bexc_ga ?_)
  refine @check_slot (model prog w) _ _ ⟨hp, g, d, t + 1, os⟩ "BaseException.__getattribute__" "BaseException" "__getattribute__" (.ref x) [.str "__class__" t] [] _ (by decide +kernel) (by decide +kernel) sub (PySem.F.args_bexc_ga (.ref x) (.str "__class__" t)) ?_
  unfold Builtin.«object.__getattribute__»
  refine wpAny_bind (wpAny_of_eq (a := ((Value.ref x : Value), [Value.str "__class__" t])) (by first | rfl | (simp only [slotArgs]; rfl)) ?_)
  refine wpAny_bind (wpAny_pure (wpAny_bind (L0.at (wpAny_bind (L3.at ?_)))))
  show wpAny _ _ (holding [Value.builtin "object.__class__"] (call (.builtin "getset_descriptor.__get__") [.builtin "object.__class__", .ref x, .ref D]) >>= ret) _ _ _
  refine wpAny_bind (wpAny_holding (wpAny_call (class_get (s := ⟨hp, g, d, t + 1, os⟩) (ox := ox) (od := od) X I C.hm ?_)))
  refine wpAny_pure ?_
  first
    | exact wpAny_pure h
    | exact handed_on rfl h
    | exact wpAny_pure (handed_on rfl h)
    | exact wpAny_bind (wpAny_pure (handed_on rfl h))
/-- the same where isinstance asks -/
theorem exc_cls? {x D : Addr} {ox : Obj} {od : Option Obj} {Q : Option Value → Shared → Prop} (C : ExcC K D) (X : K.In s.heap) (I : InstAt s.heap x ox D od) (h : Q (some (.ref D)) { s with toks := s.toks + 1 }) : wpAny (model prog w) A (getAttr? (.ref x) "__class__") Q E s := by
  have hf : findObj K D od "__class__" = some (.bind (.builtin "getset_descriptor.__get__") (.builtin "object.__class__")) := by
    obtain ⟨cd, hc⟩ := Option.isSome_iff_exists.mp (show (clsIn K D).isSome = true by obtain ⟨cd, hc, _⟩ := any_some C.hd; rw [hc]; rfl)
    unfold findObj
    rw [hc, Option.bind_some, C.ha, Option.bind_some]
    simp [C.hn, C.ht]
  obtain ⟨hp, g, d, t, os⟩ := s
  have L0 := I.type (M := model prog w)
  have L1 := looks_findIn (M := model prog w) X C.hg
  have L2 := looks_findIn (M := model prog w) X C.hk
  have L3 := looks_find (M := model prog w) X I hf
  have sub : Looks (model prog w) hp (isInstance (.ref x) (.type "BaseException")) true := L0.andThen (looks_subIn X C.hs)
  have hx0 : (false && onTheHeap (Value.builtin "BaseException.__getattribute__")) = false := rfl
  have hx2 : (Value.builtin "BaseException.__getattribute__" == Value.builtin "object.__getattribute__") = false := by decide +kernel
  have hx1 : (onTheHeap (Value.ref D) && Value.builtin "BaseException.__getattribute__" == Value.builtin "object.__getattribute__") = false := by rw [hx2]; rfl
  unfold getAttr? getAttrBy? getAttrBy
  refine wpAny_bind (wpAny_mkText (wpAny_bind (wpAny_attempt (wpAny_holding (wpAny_bind (L0.at (wpAny_bind (L1.at ?_))))))))
  show wpAny _ _ (if (onTheHeap (Value.ref D) && Value.builtin "BaseException.__getattribute__" == Value.builtin "object.__getattribute__") = true then _ else _) _ _ _
  rw [hx1, if_neg Bool.false_ne_true]
  unfold getAttrByItsOwn hookBefore
  refine wpAny_bind ?_
  rw [if_pos (show onTheHeap (Value.ref D) = true from rfl)]
  refine L2.at ?_
  refine wpAny_bind (wpAny_attempt (wpAny_holding ?_))
  unfold callGetattribute
  rw [hx0, if_neg Bool.false_ne_true]
  unfold boundAndCalled
  rw [PySem.F.excAttr_ValueError.ga.bind (.ref x)]
  refine wpAny_bind (wpAny_pure ?_)
  show wpAny _ _ (call (.builtin "BaseException.__getattribute__") [.ref x, .str "__class__" t]) _ _ _
  refine wpAny_call (codeAny_call_builtin PySem.F.excAttr_ValueError.ga.plain PySem.F.entry_bexc_ga ?_)
  refine @check_slot (model prog w) _ _ ⟨hp, g, d, t + 1, os⟩ "BaseException.__getattribute__" "BaseException" "__getattribute__" (.ref x) [.str "__class__" t] [] _ (by decide +kernel) (by decide +kernel) sub (PySem.F.args_bexc_ga (.ref x) (.str "__class__" t)) ?_
  unfold Builtin.«object.__getattribute__»
  refine wpAny_bind (wpAny_of_eq (a := ((Value.ref x : Value), [Value.str "__class__" t])) (by first | rfl | (simp only [slotArgs]; rfl)) ?_)
  refine wpAny_bind (wpAny_pure (wpAny_bind (L0.at (wpAny_bind (L3.at ?_)))))
  show wpAny _ _ (holding [Value.builtin "object.__class__"] (call (.builtin "getset_descriptor.__get__") [.builtin "object.__class__", .ref x, .ref D]) >>= ret) _ _ _
  refine wpAny_bind (wpAny_holding (wpAny_call (class_get (s := ⟨hp, g, d, t + 1, os⟩) (ox := ox) (od := od) X I C.hm ?_)))
  refine wpAny_pure ?_
  refine handed_on rfl ?_
  first
    | exact wpAny_pure h
    | exact wpAny_pure (wpAny_pure h)
    | exact wpAny_bind (wpAny_pure (wpAny_pure h))
    | exact wpAny_pure (wpAny_bind (wpAny_pure (wpAny_pure h)))
end
end Zw

set_option Elab.async false
set_option linter.all false
set_option maxRecDepth 100000
set_option maxHeartbeats 4000000
namespace Zw
open PySem PySem.Spec PyProof.Rows L2
section
variable {X : Cx}
/-- e.__class__.__name__ of a refusal that is being made -/
def tClsName (K : PySem.W.Frag) (te : TE) : TE := fun σ H Q => te σ H fun x H1 => ∃ a C nm, x = .ref a ∧ H1 a = some (exo a C none) ∧ ExcC K C ∧ NameC K C nm ∧ Q (.str nm) H1
theorem pe_clsname {e : Expr} {te : TE} {p1 p2 : Pos} (he : PE X e te) (hb : attributeBase e "__class__" X.env (eval e X.env) = eval e X.env := by rfl) : PE X (.Attribute (.Attribute e "__class__" p1) "__name__" p2) (tClsName X.K te) := by
  refine ⟨fun pins s σ H Q I h => ?_⟩
  refine attr_of rfl (attr_of hb (thn (he.run pins s σ H _ I h) fun u s1 ⟨x, H1, I1, r1, a, C, nm, ex, ea, ec, nc, q⟩ => ?_))
  subst ex
  obtain rfl : u = Value.ref a := r1
  obtain ⟨t1, ho⟩ := exo_at I1.hok ea
  exact exc_cls (od := none) ec I1.kIn ⟨ho, rfl, rfl, trivial⟩ (cls_name (s := { s1 with toks := s1.toks + 1 }) I1.kIn nc fun tk u => ⟨.str nm, H1, I1.kept (t' := u) fun _ _ z => z, ⟨tk, rfl⟩, q⟩)
end
/-- a refusal's __init__: its kind is told -/
def spErrInit (K : PySem.W.Frag) : Sp := fun vs H Q _ => ∃ a C nm v, vs = [.ref a, v] ∧ H a = some (exo a C none) ∧ OexC K C ∧ ExcC K C ∧ NameC K C nm ∧ PySem.W.findIn K (.ref C) "kind" = some none ∧
  ∀ dx, H dx = none → dx ≠ a → Q .non (upd (upd H dx (exd dx [("kind", .str nm)])) a (exo a C (some dx)))
theorem fn_errInit {P : Program} {w : World} {K : PySem.W.Frag} {mg : Str → Option Value} {base : Heap} {qual : Str} {st : Stmt} {f : Addr} {fd : FuncData} {dvs : List V} {p1 p2 p3 p4 p5 p6 p7 p8 p9 p10 p11 p12 : Pos}
    (F : FunD K "__init__" qual (defArgs st) (defBody st) (defScope st) dvs [] f fd) (S : FnScope ["self", "why"] ["self", "why"] (defScope st)) (hg : List.lookup ("ValueError" : Str) (defScope st).names = some NameKind.globalImplicit) (hm : mg "ValueError" = none)
    (hbody : defBody st = [.Expr (.Call (.Attribute (.Name "ValueError" p1) "__init__" p2) [.Name "self" p3, .Name "why" p4] [] p5) p6, .Assign [.Attribute (.Name "self" p7) "kind" p8] (.Attribute (.Attribute (.Name "self" p9) "__class__" p10) "__name__" p11) p12])
    (hc : ∀ env : Env, ∃ pl : Sem Bool, eval (.Call (.Attribute (.Name "ValueError" p1) "__init__" p2) [.Name "self" p3, .Name "why" p4] [] p5) env = (do
      let ov ← eval (.Name "ValueError" p1) env
      standAt p2.atName
      let (f, first) ← holding [ov] (getMethod ov "__init__" pl)
      callWith p5 f first (backTo p5 (starEach [.Name "self" p3, .Name "why" p4] env)) (backToKw p5 (keywordEach [] env))))
    (vV : PySem.W.findCls K (.type "ValueError") (.type "type") "__init__" = some (.val (.builtin "ValueError.__init__"))) : FnOk P w K mg base (L2.CX P w) 1 f fd ["self", "why"] (spErrInit K) := by
  refine FunD.ok (k := 0) F S (fun vs H Q E h => by obtain ⟨_, _, _, _, rfl, _⟩ := h; rfl) fun cdv A outer s H vs Q E hr h => ?_
  obtain ⟨a, C, nm, v, rfl, ea, oex, exc, nam, kin, q⟩ := h
  rw [hbody]
  have vs1 : ∀ x ∈ (["self", "why"] : List Str), Vis (defScope st) x := fun x hx => (S.par x hx).elim .inl fun z => .inr (.inl z)
  have v0 : Vis (defScope st) "self" := vs1 _ List.mem_cons_self
  have v1 : Vis (defScope st) "why" := vs1 _ (List.mem_cons_of_mem _ List.mem_cons_self)
  obtain ⟨pl, hc⟩ := hc (cxOf (L2.CX P w) P w K mg base ["self", "why"] qual (defScope st) f cdv A outer s H E).env
  refine ⟨_, pss_cons (ps_expr (pe_veinit (pl := pl) hg hm vV (pa_cons (pe_var (i := 0) rfl v0) (pa_cons (pe_var (i := 1) rfl v1) pa_nil)) hc)) (pss_one (ps_ost (pe_var (i := 0) rfl v0) (pe_clsname (pe_var (i := 0) rfl v0)))), ?_⟩
  refine ⟨_, rfl, _, rfl, a, C, [v], rfl, (show (1 : Nat) ≤ 1000 by decide), oex, ea, ?_⟩
  refine ⟨_, rfl, a, C, nm, rfl, ea, exc, nam, ?_⟩
  exact ⟨_, rfl, a, C, rfl, oex, kin, .inl ⟨ea, fun dx n ne => q dx n ne⟩⟩
/-- a class of refusals by this __init__, without one of its own -/
structure ErrOk (P : Program) (w : World) (K : PySem.W.Frag) (mg : Str → Option Value) (base : Heap) (C : Addr) (nm : Str) : Prop where
  oex : OexC K C
  exc : ExcC K C
  nam : NameC K C nm
  kin : PySem.W.findIn K (.ref C) "kind" = some none
  ini : ∃ fI fd, PySem.W.findIn K (.ref C) "__init__" = some (some (.ref fI)) ∧ PySem.W.typeIn K (.ref fI) = some (.type "function") ∧ FnOk P w K mg base (L2.CX P w) 1 fI fd ["self", "why"] (spErrInit K) ∧ Binds K fd ["self", "why"] []
section
variable {X : Cx} {W : WX} {x m : Str} {j : Nat} {p p2 p3 pos : Pos}
/-- raise C('..') -/
theorem ps_err {C : Addr} {nm : Str} (hc : X.calm = true) (tk : Takes X W) (E : ErrOk X.prog X.w X.K X.mg X.base C nm) (hr : Room 2 X.A) (hg : Gl X x) (hm : X.mg x = some (.ref C)) (hd : (x == ("__debug__" : Str)) = false) :
    PS X (.Raise (some (.Call (.Name x p) [.Constant (.str m) j p2] [] p3)) none pos) (fun _ σ H => ∀ d, H d = none → W (.ref C) (some d) σ (upd H d (.xd [("kind", .str nm)]))) := by
  obtain ⟨fI, fd, iC, tI, F1, hb⟩ := E.ini
  have ps : Passes (L2.CX X.prog X.w) X (fun _ _ _ => False) := fun pins σ H s e s' I c => by
    obtain ⟨_, _, _, _, _, _, _, _, _, _, _, _, z⟩ := c
    exact z.elim
  refine ⟨fun pins s σ H D I h => (ps_raise hc tk (pmk_oex E.oex iC tI F1 hr hb (dvs := []) .nil ps hg hm (pa_cons pe_str pa_nil) hd)).run pins s σ H D I ?_⟩
  · refine ⟨(show (1 : Nat) ≤ 1000 by decide), fun a ha => ⟨a, C, nm, .str m, rfl, upd_same, E.oex, E.exc, E.nam, E.kin, fun dx hn hne => ⟨rfl, dx, [("kind", .str nm)], upd_same, ?_, ?_, ?_⟩⟩⟩
    · rw [upd_ne hne, upd_same]
    · rw [upd_ne hne] at hn
      exact hn
    · rw [upd_ne hne] at hn
      have e : upd (del (upd (upd (upd H a (exo a C none)) dx (exd dx [("kind", .str nm)])) a (exo a C (some dx))) a) dx (.xd [("kind", .str nm)]) = upd H dx (.xd [("kind", .str nm)]) := by
        funext b
        by_cases h1 : b = dx
        · subst h1
          rw [upd_same, upd_same]
        · rw [upd_ne h1, upd_ne h1]
          by_cases h2 : b = a
          · subst h2
            rw [del_same]
            exact ha.symm
          · rw [del_ne h2, upd_ne h2, upd_ne h1, upd_ne h2]
      exact e ▸ h dx hn
end
/-! ### isinstance of a refusal that has a dict -/
section
open PySem.W
theorem kitx_d {K : Frag} {x D dd : Addr} {ox : Obj} (C : ExcC K D) : KitX K (.ref x) (.ref D) (fun h => ∃ od, InstAt h x ox D (some od)) where
  ty := fun _ _ _ I => by
    obtain ⟨_, I⟩ := I
    exact I.type
  it := fun _ _ X _ => by
    obtain ⟨cdD, hcD, _⟩ := any_some C.hd
    unfold clsIn at hcD
    split at hcD
    · rename_i c' d' cd' sl' ho
      intro A' Q' E' s' k q
      unfold isType loadHead
      exact wpAny_bind (wpAny_loadPart (k _ _ (X _ _ ho)) (wpAny_pure q))
    · cases hcD
  ne := fun h tp dd its n sl X htp => by
    obtain ⟨cdD, hcD, _⟩ := any_some C.hd
    refine Bool.eq_false_iff.mpr fun q => ?_
    have e : D = tp := Value.ref.inj (beq_iff_eq.mp q)
    subst e
    unfold clsIn at hcD
    split at hcD
    · rename_i c' d' cd' sl' ho
      have z := (X _ _ ho).symm.trans htp
      cases z
    · cases hcD
  ca := fun X I k => by
    obtain ⟨_, I⟩ := I
    exact exc_cls? C X I k
end
end Zw

set_option Elab.async false
set_option linter.all false
set_option maxRecDepth 100000
set_option maxHeartbeats 4000000
namespace Zw
open PySem PySem.Spec PyProof.Rows L2

/-! ## the text in small: expressions, targets, statements, names by their places -/
/-- built-in functions and types that are called -/
inductive Bi where
  | len | isinstance | int | bool | str | list | tuple | sorted | min | max | abs | sum | any | all
  deriving DecidableEq
/-- methods of built-in values -/
inductive Mt where
  | append | pop | popAt | extend | clear | reverse | index | count | insert | dget1 | dget2 | dpop1 | dpop2 | split | join | isdigit | update
  deriving DecidableEq
mutual
inductive E where
  | var (i : Nat) | glob (x : Str) | bltn (x : Str)
  | int (i : Int) | str (s : Str) | bl (b : Bool) | non
  | bin (op : Operator) (a b : E) | neg (a : E) | nt (a : E)
  | cmp (op : CmpOp) (a b : E) | chain (o1 o2 : CmpOp) (a b c : E)
  | and2 (a b : E) | or2 (a b : E) | ife (t : T) (a b : E)
  | fld (a : E) (f : Str) | sub (a i : E) | inG (ng : Bool) (a : E) (x : Str) | subG (x : Str) (i : E) | cut (a : E) (lo hi : O)
  | tup (es : Es) | tupS (a b : E) | lst (es : Es) | dct (es : Es) | dct0
  | call (x : Str) (es : Es) | callB (b : Bi) (es : Es) | callL (i : Nat) | lam (b : E) | callZ (x : Str) (es : Es) | meth (a : E) (m : Str) (ms : List Mt) (es : Es)
  | comp (elt : E) (tg : Tg) (it : I) (tt : T) (own : List Nat)
inductive Es where
  | nil | cons (e : E) (es : Es)
inductive O where
  | no | part (e : E)
inductive T where
  | yes | nt (a : T) | and2 (a b : T) | or2 (a b : T) | cmp (e : E) | val (e : E)
inductive I where
  | rng1 (a : E) | rng2 (a b : E) | seq (e : E) | enum (e : E) | zip (a b : E) | items (e : E)
inductive Tg where
  | nm (i : Nat) | tp (is : List Nat)
end
/-- targets of an unpacking: names and items -/
inductive Tts where
  | nil | nm (i : Nat) (r : Tts) | sb (a i : E) (r : Tts)
def Tts.len : Tts → Nat
  | .nil => 0
  | .nm _ r => r.len + 1
  | .sb _ _ r => r.len + 1
mutual
inductive S where
  | set (i : Nat) (e : E) | setTup (ts : Tts) (e : E) | par (i j : Nat) (a b : E) | setFld (a : E) (f : Str) (e : E) | setSub (a i e : E)
  | aug (i : Nat) (op : Operator) (e : E) | augFld (a : E) (f : Str) (op : Operator) (e : E)
  | ret (e : E) | retN | exp (e : E) | doc | pass | brk | cont
  | ifs (t : T) (a b : Ss) | whl (t : T) (a : Ss) | fors (tg : Tg) (it : I) (a : Ss)
  | raise (x : Str) | unpS (i j : Nat) (e : E) | dead | tryAs (x : Str) (i : Nat) (a b : Ss) | tryOn (x : Str) (a b : Ss)
inductive Ss where
  | nil | cons (s : S) (r : Ss)
end

/-! ## readings of single steps -/
def rBin (K : PySem.W.Frag) : Operator → R2
  | .Add => fun x y H Q => rI0 (fun i j => .int (i + j)) x y H Q ∨ (∃ i j, x = .str i ∧ y = .str j ∧ i.length + j.length ≤ sizeLine ∧ Q (.str (i ++ j)) H) ∨ rCat x y H Q ∨ rCatA K x y H Q
  | .Sub => rI0 fun i j => .int (i - j)
  | .Mult => fun x y H Q => rI CMul (fun i j => .int (i * j)) x y H Q ∨ rI CMulW (fun i j => .int (i * j)) x y H Q ∨ rRep x y H Q
  | .FloorDiv => fun x y H Q => rI CDivW (fun i j => .int (i / j)) x y H Q
  | .Mod => rI (fun _ j => 0 < j) fun i j => .int (i % j)
  | .Pow => rI CPow fun i j => .int (i ^ j.toNat)
  | _ => fun _ _ _ _ => False
def rDIn (neg : Bool) : R2 := fun y x H Q => ∃ a o, x = .ref a ∧ DGet H a y o ∧ Q (.bl (if neg then !o.isSome else o.isSome)) H
/-- the one text within the other -/
def rInS : R2 := fun x y H Q => ∃ (c : Nat) (z : Str), x = .str ⟨#[c]⟩ ∧ y = .str z ∧ Q (.bl (decide (c ∈ z.cps.toList))) H
def rCmp (K : PySem.W.Frag) : CmpOp → R2
  | .Eq => fun x y H Q => rEq x y H Q ∨ rEqD K x y H Q ∨ rEqV K x y H Q
  | .NotEq => fun x y H Q => rNe x y H Q ∨ rNeD K x y H Q
  | .Lt => rI0 fun i j => .bl (decide (i < j))
  | .LtE => rI0 fun i j => .bl (decide (i ≤ j))
  | .Gt => rI0 fun i j => .bl (decide (j < i))
  | .GtE => rI0 fun i j => .bl (decide (j ≤ i))
  | .Is => fun x y H Q => y = .non ∧ Q (.bl (decide (x = .non))) H
  | .IsNot => fun x y H Q => y = .non ∧ Q (.bl (!decide (x = .non))) H
  | .In => fun x y H Q => rIn K false x y H Q ∨ rInD K x y H Q ∨ rDIn false x y H Q ∨ rInS x y H Q
  | .NotIn => fun x y H Q => rIn K true x y H Q ∨ rNotInD K x y H Q ∨ rDIn true x y H Q
def rIxD : R2 := fun x y H Q => ∃ a v, x = .ref a ∧ DGet H a y (some v) ∧ Q v H
def rSubs (K : PySem.W.Frag) : R2 := fun x y H Q => rIx K x y H Q ∨ rIxD x y H Q
def rCut (K : PySem.W.Frag) : V → Option Int → Option Int → Hp → VK → Prop := fun x lo hi H Q => rSlL K x lo hi H Q ∨ rSlA K x lo hi H Q ∨ rSlS x lo hi H Q
/-- whether a dict of the module has a key -/
def KHas (K : PySem.W.Frag) (w : World) (p : Addr) (z : Str) (b : Bool) : Prop := ∃ es n r, K.lookup p = some ⟨.type "dict", none, .dict es n, #[]⟩ ∧ PySem.W.KeysLit w.params es.toList ∧ (p == sysModules) = false ∧ PySem.W.nsIn K p z = some r ∧ r.isSome = b
def rInK (K : PySem.W.Frag) (w : World) (ng : Bool) : R2 := fun x y H Q => ∃ p z b, x = .str z ∧ y = .ref p ∧ KHas K w p z b ∧ Q (.bl (if ng = true then !b else b)) H
def rFld (K : PySem.W.Frag) (x : V) (f : Str) (H : Hp) (Q : VK) : Prop := ∃ a C dx fs v, x = .ref a ∧ H a = some (.ins C dx fs) ∧ Cls K C ∧ NoAttr K C f ∧ fs.lookup f = some v ∧ Q v H
/-- the exception that a suite holds: where, its class, its dict -/
abbrev XC := Option (Addr × Value × Option Addr)
def rIsH (K : PySem.W.Frag) (xc : XC) : List V → Hp → VK → Prop := fun xs H Q => ∃ a C d, xc = some (a, .ref C, d) ∧ (d = none ∨ ∃ dd fs, d = some dd ∧ H dd = some (.xd fs)) ∧ ExcC K C ∧ rIsE K C a xs H Q
def rBi (K : PySem.W.Frag) (xc : XC) : Bi → List V → Hp → VK → Prop
  | .len => fun xs H Q => ∃ x n, xs = [x] ∧ LenV K x H n ∧ Q (.int n) H
  | .isinstance => fun xs H Q => (rIsi K xs H Q ∨ rIsiT K xs H Q) ∨ rIsH K xc xs H Q
  | .int => fun xs H Q => ((∃ i, xs = [.int i] ∧ Q (.int i) H) ∨ ∃ k, xs = [.bl k] ∧ Q (.int (if k then 1 else 0)) H) ∨ ∃ a n, xs = [.str a] ∧ PySem.intText? a = some n ∧ a.length ≤ 640 ∧ Q (.int n) H
  | .bool => fun xs H Q => (∃ i, xs = [.int i] ∧ Q (.bl (i != 0)) H) ∨ ∃ k, xs = [.bl k] ∧ Q (.bl k) H
  | .str => fun xs H Q => (∃ i, xs = [.int i] ∧ i.natAbs.log2 < 1920 ∧ Q (.str (toString i)) H) ∨ ∃ a, xs = [.str a] ∧ Q (.str a) H
  | .list => fun xs H Q => ∃ p ys, xs = [.ref p] ∧ (SqL K H p ys ∨ SqT K H p ys) ∧ ∀ l, H l = none → Q (.ref l) (upd H l (.lst ys))
  | .tuple => fun xs H Q => ∃ p ys, xs = [.ref p] ∧ ((SqL K H p ys ∧ ∀ l, H l = none → Q (.ref l) (upd H l (.tup ys))) ∨ (SqT K H p ys ∧ Q (.ref p) H))
  | .sorted => rSorted K
  | .min => fun xs H Q => ∃ i j, xs = [.int i, .int j] ∧ Q (.int (if j < i then j else i)) H
  | .max => fun xs H Q => ∃ i j, xs = [.int i, .int j] ∧ Q (.int (if j > i then j else i)) H
  | .abs => fun xs H Q => ∃ i, xs = [.int i] ∧ Q (.int (if i < 0 then -i else i)) H
  | .sum => rSum K
  | .any => rAny K
  | .all => rAll K

/-! ## targets -/
def setMany : L2.St → List Nat → List V → L2.St
  | σ, i :: is, v :: vs => setMany (σ.set i (some v)) is vs
  | σ, _, _ => σ
def rUnp (K : PySem.W.Frag) (is : List Nat) : TG := fun v σ H Q => ∃ a xs, v = .ref a ∧ (SqT K H a xs ∨ SqL K H a xs) ∧ xs.length = is.length ∧ Q (setMany σ is xs) H
def gTg (K : PySem.W.Frag) : Tg → TG
  | .nm i => gName i
  | .tp is => rUnp K is
/-- methods of built-in values -/
def mtT : Mt → String
  | .append | .pop | .popAt | .extend | .clear | .reverse | .index | .count | .insert => "list"
  | .dget1 | .dget2 | .dpop1 | .dpop2 | .update => "dict"
  | .split | .join | .isdigit => "str"
def rMt (K : PySem.W.Frag) : Mt → V → List V → Hp → VK → Prop
  | .append => rAppend
  | .pop => rPop
  | .popAt => rPopAt
  | .extend => rExtend
  | .clear => rClear
  | .reverse => rReverse
  | .index => fun x xs H Q => rIndex K x xs H Q ∨ rIndexD K x xs H Q
  | .count => fun x xs H Q => ∃ a ys y, x = .ref a ∧ xs = [y] ∧ SqL K H a ys ∧ flatV y = true ∧ ys.all flatV = true ∧ Q (.int (ys.countP fun z => eqV z y : Nat)) H
  | .insert => fun x vs H Q => ∃ (l : Addr) (xs : List V) (i : Int) (y : V), x = .ref l ∧ vs = [.int i, y] ∧ H l = some (.lst xs) ∧ xs.length < sizeLine ∧ 0 ≤ i ∧ i < 2 ^ 63 ∧ Q .non (upd H l (.lst (xs.take i.toNat ++ [y] ++ xs.drop i.toNat)))
  | .dget1 => fun x vs H Q => ∃ a y o, x = .ref a ∧ vs = [y] ∧ DGet H a y o ∧ Q (o.getD .non) H
  | .dget2 => fun x vs H Q => ∃ a y d o, x = .ref a ∧ vs = [y, d] ∧ DGet H a y o ∧ Q (o.getD d) H
  | .dpop1 => fun x vs H Q => ∃ a kvs k v, x = .ref a ∧ vs = [kV k] ∧ H a = some (.dK kvs) ∧ valV kvs k = some v ∧ Q v (upd H a (.dK (dropK kvs k)))
  | .dpop2 => fun x vs H Q => ∃ a kvs k d, x = .ref a ∧ vs = [kV k, d] ∧ H a = some (.dK kvs) ∧ ((∃ v, valV kvs k = some v ∧ Q v (upd H a (.dK (dropK kvs k)))) ∨ (valV kvs k = none ∧ Q d H))
  | .split => fun x xs H Q => ∃ a b, x = .str a ∧ xs = [.str b] ∧ (b.length == 0) = false ∧ a.length + 2 ≤ sizeLine ∧ rNewStrs (Txt.split a b) H Q
  | .join => fun x xs H Q => ∃ a p, ∃ ys : List Str, x = .str a ∧ xs = [.ref p] ∧ (SqL K H p (ys.map V.str) ∨ SqT K H p (ys.map V.str)) ∧ (ys.map (·.length)).sum + ys.length * a.length ≤ 16777216 ∧ Q (.str (Txt.join a ys)) H
  | .isdigit => fun x xs H Q => ∃ a, x = .str a ∧ xs = [] ∧ True ∧ Q (.bl (Txt.isdigit a)) H
  | .update => fun x vs H Q => ∃ a b kvs more, x = .ref a ∧ vs = [.ref b] ∧ a ≠ b ∧ H a = some (.dK kvs) ∧ H b = some (.dK more) ∧ kvs.length + more.length ≤ sizeLine ∧ Q .non (upd H a (.dK (mergeK kvs more)))
/-- no exception -/
abbrev W0 : WX := fun _ _ _ _ => False

/-- the lambdas that a frame made: where, what is known there, what each promises by level, slots and cells -/
abbrev MT := Addr → List (Addr × HO) → (Nat → L2.St → Hp → Sp) → Prop
structure Rx extends Rt where
  T : List (Addr × Str)
  M : MT
  xc : XC := none

/-! ## the reading of an expression -/
mutual
def wE (R : Rx) (k : Nat) : E → WX → L2.St → Hp → VK → Prop
  | .var i, _, σ, H, Q => ∃ v, σ[i]? = some (some v) ∧ Q v H
  | .glob x, _, _, H, Q => ∃ v u, R.mg x = some u ∧ RelV v u ∧ Q v H
  | .bltn x, _, _, H, Q => ∃ v u, bootBuiltins x = some u ∧ RelV v u ∧ Q v H
  | .int i, _, _, H, Q => Q (.int i) H
  | .str z, _, _, H, Q => Q (.str z) H
  | .bl b, _, _, H, Q => Q (.bl b) H
  | .non, _, _, H, Q => Q .non H
  | .bin op a b, W, σ, H, Q => wE R k a W σ H fun x H1 => wE R k b W σ H1 fun y H2 => rBin R.K op x y H2 Q
  | .neg a, W, σ, H, Q => wE R k a W σ H fun x H1 => ∃ i, x = .int i ∧ Q (.int (-i)) H1
  | .nt a, W, σ, H, Q => wE R k a W σ H fun x H1 => ∃ c, TruV R.K x H1 c ∧ Q (.bl (!c)) H1
  | .cmp op a b, W, σ, H, Q => wE R k a W σ H fun x H1 => wE R k b W σ H1 fun y H2 => rCmp R.K op x y H2 Q
  | .inG ng a x, W, σ, H, Q => wE R k a W σ H fun v H1 => ∃ y u, R.mg x = some u ∧ RelV y u ∧ (rInK R.K R.w ng v y H1 Q ∨ rCmp R.K (if ng = true then .NotIn else .In) v y H1 Q)
  | .subG x i, W, σ, H, Q => ∃ y u, R.mg x = some u ∧ RelV y u ∧ wE R k i W σ H fun v H1 => (L2.rIxD R.K R.w y v H1 Q ∨ rSubs R.K y v H1 Q)
  | .chain o1 o2 a b c, W, σ, H, Q => wE R k a W σ H fun x H1 => wE R k b W σ H1 fun y H2 => rCmp R.K o1 x y H2 fun z H3 => ∃ c1, z = .bl c1 ∧
      if c1 = true then wE R k c W σ H3 fun v H4 => rCmp R.K o2 y v H4 Q else Q (.bl false) H3
  | .and2 a b, W, σ, H, Q => wE R k a W σ H fun x H1 => ∃ c, TruV R.K x H1 c ∧ if c = true then wE R k b W σ H1 Q else Q x H1
  | .or2 a b, W, σ, H, Q => wE R k a W σ H fun x H1 => ∃ c, TruV R.K x H1 c ∧ if c = true then Q x H1 else wE R k b W σ H1 Q
  | .ife t a b, W, σ, H, Q => wT R k t W σ H fun c H1 => if c = true then wE R k a W σ H1 Q else wE R k b W σ H1 Q
  | .fld a f, W, σ, H, Q => wE R k a W σ H fun x H1 => rFld R.K x f H1 Q
  | .sub a i, W, σ, H, Q => wE R k a W σ H fun x H1 => wE R k i W σ H1 fun y H2 => rSubs R.K x y H2 Q
  | .cut a lo hi, W, σ, H, Q => wE R k a W σ H fun x H1 => wO R k lo W σ H1 fun l H2 => wO R k hi W σ H2 fun u H3 => rCut R.K x l u H3 Q
  | .tup es, W, σ, H, Q => wEs R k es W σ H fun xs H1 => xs.length ≤ sizeLine ∧ ∀ p, H1 p = none → Q (.ref p) (upd H1 p (.tup xs))
  | .tupS a b, W, σ, H, Q => wE R k a W σ H fun x H1 => wE R k b W σ H1 fun y H2 => ∃ p xs, y = .ref p ∧ (SqT R.K H2 p xs ∨ SqL R.K H2 p xs) ∧ (x :: (xs ++ [])).length ≤ sizeLine ∧ ∀ p, H2 p = none → Q (.ref p) (upd H2 p (.tup (x :: (xs ++ []))))
  | .lst es, W, σ, H, Q => wEs R k es W σ H fun xs H1 => xs.length ≤ sizeLine ∧ ∀ p, H1 p = none → Q (.ref p) (upd H1 p (.lst xs))
  | .dct es, W, σ, H, Q => tDisp (wPs R k es W) σ H Q
  | .dct0, _, σ, H, Q => tDNewK σ H Q ∨ tDNewT σ H Q
  | .call x es, W, σ, H, Q => ∃ f, R.mg x = some (.ref f) ∧ PySem.W.keepIn R.K (.ref f) = true ∧ wEs R k es W σ H fun vs H1 => ∃ sp, CallOk R.toRt k f sp ∧ sp vs H1 Q (WE W σ)
  | .callB b es, W, σ, H, Q => wEs R k es W σ H fun vs H1 => rBi R.K R.xc b vs H1 Q
  | .callL i, W, σ, H, Q => ∃ f G sp, σ[i]? = some (some (.ref f)) ∧ G H ∧ LamOk R.toRt k f G sp ∧ sp [] H Q (WE W σ)
  | .lam b, _, _, H, Q => tabsOk R.T H ∧ ∀ f fz H1, KeepT R.T H H1 → tabsOk R.T H1 → (∀ p ∈ fz, H1 p.1 = some p.2) → (∀ p ∈ fz, fixO p.2 = true) → R.M f fz (fun j σ cz => spLam (fun Ex σ H Q => wE R j b (fun cls d _ H' => Ex cls d H') σ H Q) σ cz) → Q (.ref f) H1
  | .callZ x es, W, σ, H, Q => ∃ g, R.mg x = some (.ref g) ∧ PySem.W.keepIn R.K (.ref g) = true ∧ wEs R k es W σ H fun vs H1 => ∃ sp, CallEnv R.toRt k g sp ∧ ∀ cz : Hp, CzK cz → (∀ a o, cz a = some o → H1 a = none) →
      (∀ f fz φ, R.M f fz φ → ∀ j, LamOk R.toRt (j + 1) f (knows cz fz) (φ j σ cz)) → sp vs (join cz H1) (fun v H2 => (∀ a o, cz a = some o → H2 a = some o) → Q v (less cz H2)) fun _ _ _ => False
  | .meth a m ms es, W, σ, H, Q => wE R k a W σ H fun x H1 =>
      (R.xc = none ∧ ∃ p C dx fs g, x = .ref p ∧ H1 p = some (.ins C dx fs) ∧ Cls R.K C ∧ Meth R.K C m g ∧ fs.lookup m = none ∧
        wEs R k es W σ H1 fun vs H2 => ∃ sp, CallOk R.toRt k g sp ∧ sp (x :: vs) H2 Q (WE W σ)) ∨
      (∃ t, t ∈ ms ∧ tyV R.K (mtT t) x H1 ∧ wEs R k es W σ H1 fun vs H2 => rMt R.K t x vs H2 Q)
  | .comp elt tg it tt own, _, σ, H, Q =>
      tLc (fun σ H S => wI R k it W0 σ H S) (gTg R.K tg) (fun σ H S => wT R k tt W0 σ H S) (fun σ H S => wE R k elt W0 σ H S) own σ H Q ∨
      tLockE (tLc (fun σ H S => wI R k it W0 σ H S) (gTg R.K tg) (fun σ H S => wT R k tt W0 σ H S) (fun σ H S => wE R k elt W0 σ H S) own) σ H Q
def wEs (R : Rx) (k : Nat) : Es → WX → L2.St → Hp → (List V → Hp → Prop) → Prop
  | .nil, _, _, H, Q => Q [] H
  | .cons e es, W, σ, H, Q => wE R k e W σ H fun x H1 => wEs R k es W σ H1 fun xs H2 => Q (x :: xs) H2
def wPs (R : Rx) (k : Nat) : Es → WX → List (TE × TE)
  | .cons a (.cons b r), W => (fun σ H Q => wE R k a W σ H Q, fun σ H Q => wE R k b W σ H Q) :: wPs R k r W
  | _, _ => []
def wO (R : Rx) (k : Nat) : O → WX → L2.St → Hp → (Option Int → Hp → Prop) → Prop
  | .no, _, _, H, Q => Q none H
  | .part e, W, σ, H, Q => wE R k e W σ H fun x H1 => ∃ i, x = .int i ∧ Q (some i) H1
def wT (R : Rx) (k : Nat) : T → WX → L2.St → Hp → (Bool → Hp → Prop) → Prop
  | .yes, _, _, H, Q => Q true H
  | .nt a, W, σ, H, Q => wT R k a W σ H fun c H1 => Q (!c) H1
  | .and2 a b, W, σ, H, Q => wT R k a W σ H fun c H1 => if c = true then wT R k b W σ H1 Q else Q false H1
  | .or2 a b, W, σ, H, Q => wT R k a W σ H fun c H1 => if c = true then Q true H1 else wT R k b W σ H1 Q
  | .cmp e, W, σ, H, Q => wE R k e W σ H fun x H1 => ∃ c, x = .bl c ∧ Q c H1
  | .val e, W, σ, H, Q => wE R k e W σ H fun x H1 => ∃ c, TruV R.K x H1 c ∧ Q c H1
def wI (R : Rx) (k : Nat) : I → WX → L2.St → Hp → (It → Hp → Prop) → Prop
  | .rng1 a, W, σ, H, S => wE R k a W σ H fun x H1 => ∃ j : Int, x = .int j ∧ -(2 ^ 62) ≤ j ∧ j < 2 ^ 62 ∧ S (Itr 0 j.toNat) H1
  | .rng2 a b, W, σ, H, S => wE R k a W σ H fun x H1 => wE R k b W σ H1 fun y H2 => ∃ i j : Int, x = .int i ∧ y = .int j ∧ (-(2 ^ 62) ≤ i ∧ i < 2 ^ 62 ∧ -(2 ^ 62) ≤ j ∧ j < 2 ^ 62) ∧ S (Itr i (j - i).toNat) H2
  | .seq e, W, σ, H, S => wE R k e W σ H fun x H1 => (∃ a, x = .ref a ∧ (∃ xs, SqL R.K H1 a xs) ∧ S (Itl R.K a) H1) ∨ (∃ a, x = .ref a ∧ (∃ xs, SqT R.K H1 a xs) ∧ S (Itt R.K a) H1) ∨
      (∃ d o kvs, x = .ref d ∧ H1 d = some (.frz o (.dK kvs)) ∧ S (Itk d o kvs) H1) ∨ (∃ z, x = .str z ∧ S (Its z) H1)
  | .enum e, W, σ, H, S => wE R k e W σ H fun x H1 => ∃ a xs, x = .ref a ∧ SqL R.K H1 a xs ∧ S (Ite R.K a) H1
  | .zip a b, W, σ, H, S => wE R k a W σ H fun x H1 => wE R k b W σ H1 fun y H2 => ∃ p q xs ys, x = .ref p ∧ y = .ref q ∧ SqL R.K H2 p xs ∧ SqL R.K H2 q ys ∧ S (Itz R.K p q) H2
  | .items e, W, σ, H, S => wE R k e W σ H fun x H1 => ∃ d o kvs, x = .ref d ∧ H1 d = some (.frz o (.dK kvs)) ∧ S (Iti d o kvs) H1
end
/-- what an own exception's class has (one without an __init__ of its own) -/
structure ExcOk (K : PySem.W.Frag) (C : Addr) : Prop where
  ex : PySem.W.excIn K C [.type "ValueError", .type "Exception", .type "BaseException", .type "object"] "ValueError.__new__" = true
  kp : PySem.W.keepIn K (.ref C) = true
  sb : PySem.W.subIn K (.ref C) (.type "BaseException") = some true
  ty : PySem.W.typeIn K (.ref C) = some (.type "type")
/-! ## the reading of statements -/
def rAug (op : Operator) : TIp := match op with
  | .Add => fun x y H Q => (∃ i j, x = .int i ∧ y = .int j ∧ Q (.int (i + j)) H) ∨ ∃ i j, x = .str i ∧ y = .str j ∧ i.length + j.length ≤ sizeLine ∧ Q (.str (i ++ j)) H
  | .Sub => fun x y H Q => ∃ i j, x = .int i ∧ y = .int j ∧ Q (.int (i - j)) H
  | _ => fun _ _ _ _ => False
def wTts (R : Rx) (k : Nat) : Tts → WX → List V → L2.St → Hp → (L2.St → Hp → Prop) → Prop
  | .nil, _, _, σ, H, Q => Q σ H
  | .nm i r, W, v :: vs, σ, H, Q => wTts R k r W vs (σ.set i (some v)) H Q
  | .sb a i r, W, v :: vs, σ, H, Q => wE R k a W σ H fun x H2 => wE R k i W σ H2 fun y H3 => rSetL x y v H3 (fun H4 => wTts R k r W vs σ H4 Q) ∨ ∃ p H4, x = .ref p ∧ DPut H3 p y v H4 ∧ wTts R k r W vs σ H4 Q
  | _, _, _, _, _, _ => False
def rAugF (op : Operator) : V → V → Hp → VK → Prop := match op with
  | .Add => rAdd
  | .Sub => rSub
  | _ => fun _ _ _ _ => False
mutual
def wS (R : Rx) (k : Nat) : S → WX → Ends → L2.St → Hp → Prop
  | .set i e, W, D, σ, H => wE R k e W σ H fun v H1 => D.nx (σ.set i (some v)) H1
  | .setTup ts e, W, D, σ, H => wE R k e W σ H fun v H1 => ∃ a xs, v = .ref a ∧ (SqT R.K H1 a xs ∨ SqL R.K H1 a xs) ∧ xs.length = ts.len ∧ wTts R k ts W xs σ H1 D.nx
  | .par i j a b, W, D, σ, H => wE R k a W σ H fun v H1 => wE R k b W σ H1 fun w H2 => D.nx ((σ.set i (some v)).set j (some w)) H2
  | .setFld a f e, W, D, σ, H => wE R k e W σ H fun y H1 => wE R k a W σ H1 fun x H2 => ∃ p C dx fs, x = .ref p ∧ H2 p = some (.ins C dx fs) ∧ Cls R.K C ∧ NoAttr R.K C f ∧ fs.length < 1000 ∧ D.nx σ (upd H2 p (.ins C dx (putF f y fs)))
  | .setSub a i e, W, D, σ, H => wE R k e W σ H fun v H1 => wE R k a W σ H1 fun x H2 => wE R k i W σ H2 fun y H3 => rSetL x y v H3 (D.nx σ) ∨ ∃ p H4, x = .ref p ∧ DPut H3 p y v H4 ∧ D.nx σ H4
  | .aug i op e, W, D, σ, H => ∃ x, σ[i]? = some (some x) ∧ wE R k e W σ H fun y H1 => rAug op x y H1 fun z H2 => D.nx (σ.set i (some z)) H2
  | .augFld a f op e, W, D, σ, H => sFldAug R.K (fun σ H S => wE R k a W σ H S) (fun σ H S => wE R k e W σ H S) (rAugF op) f D σ H
  | .ret e, W, D, σ, H => wE R k e W σ H D.rt
  | .retN, _, D, _, H => D.rt .non H
  | .exp e, W, D, σ, H => wE R k e W σ H fun _ H1 => D.nx σ H1
  | .doc, _, D, σ, H => D.nx σ H
  | .pass, _, D, σ, H => D.nx σ H
  | .brk, _, D, σ, H => D.bk σ H
  | .cont, _, D, σ, H => D.ct σ H
  | .ifs t a b, W, D, σ, H => wT R k t W σ H fun c H1 => if c = true then wSs R k a W D σ H1 else wSs R k b W D σ H1
  | .whl t a, W, D, σ, H => tWhile (fun σ H S => wT R k t W σ H S) (fun D σ H => wSs R k a W D σ H) D σ H
  | .fors tg it a, W, D, σ, H =>
      tFor (fun σ H S => wI R k it W σ H S) (gTg R.K tg) (fun D σ H => wSs R k a W D σ H) D σ H ∨
      tLock (tFor (fun σ H S => wI R k it W0 σ H S) (gTg R.K tg) (fun D σ H => wSs R k a W0 D σ H)) D σ H
  | .tryAs x i a b, W, D, σ, H => ∃ c, (R.mg x = some c ∨ (R.mg x = none ∧ bootBuiltins x = some c ∧ x ≠ "__name__")) ∧ wSs R k a (wAs R.K c i (fun p cls d D' σ' H' => wSs { R with xc := some (p, cls, d) } k b W0 D' σ' H') W D) D σ H
  | .tryOn x a b, W, D, σ, H => ∃ c, (R.mg x = some c ∨ (R.mg x = none ∧ bootBuiltins x = some c ∧ x ≠ "__name__")) ∧ wSs R k a (wOnly R.K c (fun p cls d D' σ' H' => wSs { R with xc := some (p, cls, d) } k b W0 D' σ' H') W D) D σ H
  | .unpS i j e, W, D, σ, H => wE R k e W σ H fun v H1 => ∃ p x rest, v = .ref p ∧ SqL R.K H1 p (x :: rest) ∧ ∀ q, H1 q = none → D.nx ((σ.set i (some x)).set j (some (.ref q))) (upd H1 q (.lst rest))
  | .dead, _, _, _, _ => False
  | .raise x, W, D, σ, H => (∃ C, R.mg x = some (.ref C) ∧ ExcOk R.K C ∧ W (.ref C) none σ H) ∨ ∃ C nm, R.mg x = some (.ref C) ∧ ErrOk R.P R.w R.K R.mg R.base C nm ∧ 2 ≤ k ∧ ∀ d, H d = none → W (.ref C) (some d) σ (upd H d (.xd [("kind", .str nm)]))
def wSs (R : Rx) (k : Nat) : Ss → WX → Ends → L2.St → Hp → Prop
  | .nil, _, D, σ, H => D.nx σ H
  | .cons s r, W, D, σ, H => wS R k s W { D with nx := fun σ' H' => wSs R k r W D σ' H' } σ H
end
example (R : Rx) (W : WX) (σ : L2.St) (H : Hp) (Q : VK) : wE R 3 (.int 3) W σ H Q = Q (.int 3) H := rfl
example (R : Rx) (W : WX) (σ : L2.St) (H : Hp) (D : Ends) : wSs R 3 (.cons (.ret (.int 3)) .nil) W D σ H = D.rt (.int 3) H := rfl
end Zw

set_option Elab.async false
set_option linter.all false
set_option maxRecDepth 100000
set_option maxHeartbeats 4000000
namespace Zw
open PySem PySem.Spec PyProof.Rows L2

/-! ## from the text to the small text -/
def ixOf : List Str → Str → Option Nat
  | [], _ => none
  | y :: r, x => if y = x then some 0 else (ixOf r x).map (· + 1)
theorem ixOf_get : ∀ {N : List Str} {x : Str} {i : Nat}, ixOf N x = some i → N[i]? = some x
  | [], _, _, h => by cases h
  | y :: r, x, i, h => by
    unfold ixOf at h
    split at h
    · cases h; simp_all
    · cases e : ixOf r x with
      | none => rw [e] at h; cases h
      | some j =>
        rw [e] at h; cases h
        simpa using ixOf_get e
def visB (sc : Scope) (x : Str) : Bool := match sc.names.lookup x with | some .local => true | some .cell => true | some .free => true | _ => false
def glB (sc : Scope) (x : Str) : Bool := match sc.names.lookup x with | some .globalImplicit => true | _ => false
def okName (x : Str) : Bool := !(x == ("__debug__" : Str)) && !(x == ("__classdict__" : Str)) && !(x == ("__name__" : Str))
theorem visB_vis {sc : Scope} {x : Str} (h : visB sc x = true) : Vis sc x := by
  unfold visB at h
  split at h <;> first | exact .inl (by assumption) | exact .inr (.inl (by assumption)) | exact .inr (.inr (by assumption)) | cases h
theorem glB_gl {sc : Scope} {x : Str} (h : glB sc x = true) : sc.names.lookup x = some .globalImplicit := by
  unfold glB at h
  split at h <;> first | assumption | cases h
theorem okName_d {x : Str} (h : okName x = true) : (x == ("__debug__" : Str)) = false ∧ (x == ("__classdict__" : Str)) = false ∧ x ≠ ("__name__" : Str) := by
  unfold okName at h
  simp only [Bool.and_eq_true, Bool.not_eq_true'] at h
  refine ⟨h.1.1, h.1.2, fun e => ?_⟩
  rw [e] at h
  simp at h
def biAll : List Bi := [.len, .isinstance, .int, .bool, .str, .list, .tuple, .sorted, .min, .max, .abs, .sum, .any, .all]
def biName : Bi → Str
  | .len => "len" | .isinstance => "isinstance" | .int => "int" | .bool => "bool" | .str => "str" | .list => "list" | .tuple => "tuple"
  | .sorted => "sorted" | .min => "min" | .max => "max" | .abs => "abs" | .sum => "sum" | .any => "any" | .all => "all"
def biOf (x : Str) : Option Bi := biAll.find? fun b => decide (biName b = x)
theorem biOf_name {x : Str} {b : Bi} (h : biOf x = some b) : biName b = x := by
  have := List.find?_some h
  simpa using this
def clsNames : List Str := ["int", "bool", "str", "list", "tuple", "dict", "ValueError"]
def mtAll : List Mt := [.append, .pop, .popAt, .extend, .clear, .reverse, .index, .count, .insert, .dget1, .dget2, .dpop1, .dpop2, .split, .join, .isdigit, .update]
def mtName : Mt → Str
  | .append => "append" | .pop => "pop" | .popAt => "pop" | .extend => "extend" | .clear => "clear" | .reverse => "reverse" | .index => "index" | .count => "count" | .insert => "insert"
  | .dget1 => "get" | .dget2 => "get" | .dpop1 => "pop" | .dpop2 => "pop" | .split => "split" | .join => "join" | .isdigit => "isdigit" | .update => "update"
def mtsOf (m : Str) : List Mt := mtAll.filter fun t => decide (mtName t = m)
theorem mtsOf_name {m : Str} {t : Mt} (h : t ∈ mtsOf m) : mtName t = m := by
  have := (List.mem_filter.mp h).2
  simpa using this

def nsB : Expr → Bool | .Starred .. => false | _ => true
def callB : Expr → Bool | .Call (.Name _ _) [] [] _ => true | _ => false
def compB : Expr → Bool | .ListComp .. => true | .SetComp .. => true | .DictComp .. => true | _ => false
def slB : Expr → Bool | .Slice .. => true | _ => false
def setB : Expr → Bool | .Set .. => true | _ => false
theorem starEach_ns {e : Expr} {es : List Expr} {env : Env} (h : nsB e = true) : starEach (e :: es) env = (false, eval e env) :: starEach es env := by
  cases e <;> first | rfl | cases h
theorem base_ns {e : Expr} {f : Str} {env : Env} (h : callB e = false) : attributeBase e f env (eval e env) = eval e env := by
  cases e
  case Call func args kws pos => cases func <;> first | rfl | (cases args <;> first | rfl | (cases kws <;> first | rfl | cases h))
  all_goals rfl
theorem swaps_ns {e : Expr} {t : Option Expr} {l : Nat} {env : Env} (h : compB e = false) : swapsWith e t l env = pure false := by
  cases e <;> first | rfl | cases h
theorem plain_ns {e : Expr} (h : slB e = false) : PlainIx e := fun o i => by
  cases e <;> first | rfl | cases h
theorem fold_ns {e : Expr} {env : Env} (h : setB e = false) (x : Value) : foldedSetIterable e env x = pure x := by
  cases e <;> first | rfl | cases h

def cEs (f : Expr → Option E) : List Expr → Option Es
  | [] => some .nil
  | e :: r => match nsB e, f e, cEs f r with
    | true, some m, some ms => some (.cons m ms)
    | _, _, _ => none
def cPs (f : Expr → Option E) : List (Option Expr) → List Expr → Option Es
  | [], [] => some .nil
  | some a :: r, b :: q => match f a, f b, cPs f r q with
    | some m, some n, some ms => some (.cons m (.cons n ms))
    | _, _, _ => none
  | _, _ => none
def cO (f : Expr → Option E) : Option Expr → Option O
  | none => some .no
  | some e => (f e).map .part
def nmIx (N : List Str) (sc : Scope) (cellOk : Bool) : Expr → Option Nat
  | .Name x _ => match sc.names.lookup x with
    | some .local => ixOf N x
    | some .cell => if cellOk then ixOf N x else none
    | _ => none
  | _ => none
def cNms (f : Expr → Option Nat) : List Expr → Option (List Nat)
  | [] => some []
  | e :: r => match f e, cNms f r with
    | some i, some is => some (i :: is)
    | _, _ => none
/-- a target of names: sc0 the block's own scope -/
def cTg (N : List Str) (sc0 : Scope) (cellOk : Bool) (tg : Expr) : Option Tg := match tg with
  | .Name _ _ => (nmIx N sc0 cellOk tg).map .nm
  | .Tuple es _ _ => (cNms (nmIx N sc0 cellOk) es).map .tp
  | _ => none
def tgNames : Expr → List Str
  | .Name x _ => [x]
  | .Tuple es _ _ => es.filterMap fun | .Name x _ => some x | _ => none
  | _ => []
def ownOf (N : List Str) (xs : List Str) : List (Str × Nat) := xs.filterMap fun x => (ixOf N x).map fun i => (x, i)
def tupB : Expr → Bool | .Tuple .. => true | _ => false
def cI (f : Expr → Option E) (sc : Scope) (tg it : Expr) : Option I := match it with
  | .Call (.Name x _) args [] _ =>
    if glB sc x then
      (if x = "range" then (match args with
        | [a] => if nsB a then (f a).map .rng1 else none
        | [a, b] => if nsB a && nsB b then (match f a, f b with | some m, some n => some (.rng2 m n) | _, _ => none) else none
        | _ => none)
      else if x = "enumerate" then (match args with
        | [a] => if nsB a && tupB tg then (f a).map .enum else none
        | _ => none)
      else if x = "zip" then (match args with
        | [a, b] => if nsB a && nsB b && tupB tg then (match f a, f b with | some m, some n => some (.zip m n) | _, _ => none) else none
        | _ => none)
      else if x = "reversed" then none
      else (f it).map .seq)
    else (f it).map .seq
  | .Call (.Attribute o m apos) [] [] cpos => if m = "items" then (if tupB tg && !callB o && (apos.endLine == cpos.line) then (f o).map .items else none) else (if m = "keys" || m = "values" then none else (f it).map .seq)
  | .GeneratorExp .. => none
  | e => if setB e then none else (f it).map .seq
/-- where a text stands: in a def, in a def that makes lambdas, in an except suite -/
inductive Md where
  | no | lam | qt
  deriving DecidableEq
def Md.l : Md → Bool | .lam => true | _ => false
def Md.c : Md → Bool | .qt => false | _ => true
def quB : Bi → Bool | .min | .max | .sum | .any | .all => false | _ => true
/-- the defs to which lambdas are handed -/
def zNames : List Str := ["_law_told", "_law_all", "_law_try"]
/-- in, not in a thing of the module -/
def glN (sc : Scope) : Expr → Option Str
  | .Name x _ => if okName x && glB sc x && !decide (x ∈ clsNames) then some x else none
  | _ => none
theorem glN_eq {sc : Scope} {e : Expr} {x : Str} (h : glN sc e = some x) : ∃ p, e = .Name x p ∧ okName x = true ∧ glB sc x = true := by
  unfold glN at h
  split at h
  · split at h
    · rename_i hc
      simp only [Bool.and_eq_true] at hc
      cases h
      exact ⟨_, rfl, hc.1.1, hc.1.2⟩
    · cases h
  · cases h
def inOp : CmpOp → Option Bool
  | .In => some false
  | .NotIn => some true
  | _ => none
theorem inOp_eq {op : CmpOp} {ng : Bool} (h : inOp op = some ng) : op = if ng = true then .NotIn else .In := by
  cases op <;> cases h <;> rfl
mutual
def cE (N : List Str) : Nat → Md → Scope → Expr → Option E
  | 0, _, _, _ => none
  | n + 1, tp, sc, e => match e with
    | .Name x _ => if okName x then (if visB sc x then (ixOf N x).map .var else if glB sc x then (if x ∈ clsNames then some (.bltn x) else some (.glob x)) else none) else none
    | .Constant c _ _ => (match c with | .int i => some (.int i) | .str z => some (.str z) | .bool b => some (.bl b) | .none => some .non | _ => none)
    | .BinOp a op b _ => (match cE N n tp sc a, cE N n tp sc b with | some x, some y => some (.bin op x y) | _, _ => none)
    | .UnaryOp op a _ => (match op with | .USub => (cE N n tp sc a).map .neg | .Not => (cE N n tp sc a).map .nt | _ => none)
    | .BoolOp op vs p => (match vs with
      | [] => none
      | [a] => cE N n tp sc a
      | a :: b :: r => (match cE N n tp sc a, cE N n tp sc (.BoolOp op (b :: r) p) with
        | some x, some y => some (match op with | .And => .and2 x y | .Or => .or2 x y)
        | _, _ => none))
    | .Compare a ops cs _ => (match ops, cs with
      | [op], [b] => if behindInMarks op b then none else (match inOp op, glN sc b with
        | some ng, some x => (cE N n tp sc a).map (.inG ng · x)
        | _, _ => (match cE N n tp sc a, cE N n tp sc b with | some x, some y => some (.cmp op x y) | _, _ => none))
      | [o1, o2], [b, c] => if setB b || setB c then none else (match cE N n tp sc a, cE N n tp sc b, cE N n tp sc c with | some x, some y, some z => some (.chain o1 o2 x y z) | _, _, _ => none)
      | _, _ => none)
    | .IfExp t a b _ => (match cT N n tp sc t, cE N n tp sc a, cE N n tp sc b with | some x, some y, some z => some (.ife x y z) | _, _, _ => none)
    | .Attribute a f _ => if callB a then none else (cE N n tp sc a).map (.fld · f)
    | .Subscript a i _ => (match i with
      | .Slice lo hi none _ => (match cE N n tp sc a, cO (cE N n tp sc) lo, cO (cE N n tp sc) hi with | some x, some l, some h => some (.cut x l h) | _, _, _ => none)
      | _ => if slB i then none else (match glN sc a with
        | some x => (cE N n tp sc i).map (.subG x)
        | none => (match cE N n tp sc a, cE N n tp sc i with | some x, some y => some (.sub x y) | _, _ => none)))
    | .Tuple es _ _ => (match es with
      | [a, .Starred b _] => if nsB a then (match cE N n tp sc a, cE N n tp sc b with | some x, some y => some (.tupS x y) | _, _ => none) else none
      | _ => (cEs (cE N n tp sc) es).map .tup)
    | .List es _ => (cEs (cE N n tp sc) es).map .lst
    | .Dict ks vs _ => if ks.isEmpty && vs.isEmpty then some .dct0 else if ks.isEmpty || !decide (ks.length = vs.length) || !decide (ks.length ≤ 15) then none else (cPs (cE N n tp sc) ks vs).map .dct
    | .Call f args kws pos => (match f, kws with
      | .Name x _, [] => if okName x then (if visB sc x then (if args.isEmpty && tp.c then (ixOf N x).map .callL else none) else if glB sc x then (match cEs (cE N n tp sc) args with
          | some es => (match biOf x with
            | some b => if args.isEmpty then none else if tp.c || quB b then some (.callB b es) else none
            | none => if tp.l && decide (x ∈ zNames) then (if args.isEmpty then none else some (.callZ x es)) else if tp.c then some (.call x es) else none)
          | none => none) else none) else none
      | .Attribute o m apos, [] => if callB o || !(apos.endLine == pos.line) || !decide (args.length < 30) then none else (match cE N n tp sc o, cEs (cE N n tp sc) args with
          | some a, some es => some (.meth a m (mtsOf m) es)
          | _, _ => none)
      | _, _ => none)
    | .Lambda params body scope _ => if tp.l then (match lparB params with
      | some l => if lamB N sc scope l then (cE N n .no scope body).map .lam else none
      | none => none) else none
    | .ListComp elt gens scope _ => (match gens with
      | [⟨tg, iter, ifs, asy⟩] =>
        if decide (asy = 0) && blkC N sc scope (ownOf N (tgNames tg)) && !setB iter && tp.c then
          (match cI (cE N n tp sc) sc tg iter, cTg N scope true tg, (match ifs with | [] => some T.yes | [c] => cT N n .no (relS scope sc) c | _ => none), cE N n .no (relS scope sc) elt with
            | some it, some g, some tt, some x => some (.comp x g it tt ((ownOf N (tgNames tg)).map (·.2)))
            | _, _, _, _ => none) else none
      | _ => none)
    | _ => none
def cT (N : List Str) : Nat → Md → Scope → Expr → Option T
  | 0, _, _, _ => none
  | n + 1, tp, sc, e => match e with
    | .UnaryOp .Not a _ => (cT N n tp sc a).map .nt
    | .BoolOp op vs p => (match vs with
      | [] => none
      | [a] => cT N n tp sc a
      | a :: b :: r => (match cT N n tp sc a, cT N n tp sc (.BoolOp op (b :: r) p) with
        | some x, some y => some (match op with | .And => .and2 x y | .Or => .or2 x y)
        | _, _ => none))
    | .Compare a ops cs _ => (match ops, cs with
      | [op], [b] => if behindInMarks op b then none else (match inOp op, glN sc b with
        | some ng, some x => (cE N n tp sc a).map fun m => .cmp (.inG ng m x)
        | _, _ => (match cE N n tp sc a, cE N n tp sc b with | some x, some y => some (.cmp (.cmp op x y)) | _, _ => none))
      | [o1, o2], [b, c] => if setB b || setB c then none else (match cE N n tp sc a, cE N n tp sc b, cE N n tp sc c with | some x, some y, some z => some (.cmp (.chain o1 o2 x y z)) | _, _, _ => none)
      | _, _ => none)
    | .IfExp .. => none
    | _ => (cE N n tp sc e).map .val
end

end Zw

set_option Elab.async false
set_option linter.all false
set_option maxRecDepth 100000
set_option maxHeartbeats 4000000
namespace Zw
open PySem PySem.Spec PyProof.Rows L2

/-- the built-in names that a program must have left alone -/
def bltNames : List Str := ["len", "isinstance", "int", "bool", "str", "list", "tuple", "sorted", "min", "max", "abs", "sum", "any", "all", "dict", "range", "enumerate", "zip", "ValueError"]
theorem biName_mem (b : Bi) : biName b ∈ bltNames := by cases b <;> decide +kernel
def rx (X : Cx) (ta : List (Addr × Str)) (mm : MT) (xc : XC) : Rx := ⟨rtOf X, ta, mm, xc⟩
/-- the lambdas that X's frame made -/
def Mof (X : Cx) : MT := fun f fz φ => ∀ (σ : L2.St) (cz : Hp), CzOk X σ cz → ∀ j, LamOk (rtOf X) (j + 1) f (knows cz fz) (φ j σ cz)
structure Gd (ta : List (Addr × Str)) (mm : MT) (xc : XC) (tp : Md) (k : Nat) (sc : Scope) (N : List Str) (W : WX) (X : Cx) : Prop where
  N : X.N = N
  nd : X.N.Nodup
  sc : X.env.scope = sc
  room : tp.c = true → Room k X.A
  u65 : X.A.units + 65 < cLine
  calm : tp.c = true → X.calm = true
  tk : Takes X W
  own : PassesOwn (model X.prog X.w) X.A X.env X.xe
  blt : ∀ x ∈ bltNames, X.mg x = none
  exn : tp.c = true → xc = none
  exq : tp.c = false → xc ≠ none
  exi : tp.c = false → CallR X (.builtin "isinstance") (rIsH X.K xc)
  lam : tp.l = true → (∀ x, X.fn x = true) ∧ mm = Mof X ∧ ∃ c P, LamX.TabB X.base X.mg c P ∧ X.env.code = .ref c ∧ (P, X.env.qual ++ "<lambda>") ∈ ta ∧ ∀ p ∈ ta, p.1 = P → p.2 = X.env.qual ++ "<lambda>"

theorem Gd.ex {ta : List (Addr × Str)} {mm : MT} {xc : XC} {tp : Md} {k : Nat} {sc : Scope} {N : List Str} {W : WX} {X : Cx} (g : Gd ta mm xc tp k sc N W X) : CallR X (.builtin "isinstance") (rIsH X.K xc) := by
  cases h : tp.c with
  | true =>
    obtain rfl := g.exn h
    intro pins s σ H xs us Q I r q
    obtain ⟨a, C, d, z, _⟩ := q
    cases z
  | false => exact g.exi h

theorem Gd.c_of {ta : List (Addr × Str)} {mm : MT} {xc : XC} {tp : Md} {k : Nat} {sc : Scope} {N : List Str} {W : WX} {X : Cx} (g : Gd ta mm xc tp k sc N W X) (h : xc = none) : tp.c = true := by
  cases q : tp.c with
  | true => rfl
  | false => exact absurd h (g.exq q)

section
variable {X : Cx}
theorem PEi {e : Expr} {t t' : TE} (h : PE X e t) (i : ∀ σ H Q, t' σ H Q → t σ H Q) : PE X e t' := ⟨fun pins s σ H Q I q => h.run pins s σ H Q I (i σ H Q q)⟩
theorem PTi {e : Expr} {t t' : TT} (h : PT X e t) (i : ∀ σ H Q, t' σ H Q → t σ H Q) : PT X e t' := ⟨fun pins s σ H Q I q => h.run pins s σ H Q I (i σ H Q q)⟩
theorem PSi {e : Stmt} {t t' : TS} (h : PS X e t) (i : ∀ D σ H, t' D σ H → t D σ H) : PS X e t' := ⟨fun pins s σ H D I q => h.run pins s σ H D I (i D σ H q)⟩
theorem ORi {f : Value → Value → Sem Value} {r r' : R2} (h : OpR X f r) (i : ∀ x y H Q, r' x y H Q → r x y H Q) : OpR X f r' := fun pins s σ H x y v u Q I rx ry q => h pins s σ H x y v u Q I rx ry (i _ _ _ _ q)
theorem ORn {f : Value → Value → Sem Value} : OpR X f (fun _ _ _ _ => False) := fun _ _ _ _ _ _ _ _ _ _ _ _ q => q.elim
theorem MtRn {id : String} : MtR X id (fun _ _ _ _ => False) := fun _ _ _ _ _ _ _ _ _ _ _ _ q => q.elim

theorem o_bin (op : Operator) : OpR X (binaryOp op) (rBin X.K op) := by
  cases op
  case Add => exact op_add.or (op_add_str.or (op_cat.or op_catA))
  case Sub => exact op_sub
  case Mult => exact op_mul.or (op_mulW.or op_rep)
  case FloorDiv => exact op_fdivW
  case Mod => exact op_mod
  case Pow => exact op_pow
  all_goals exact ORn
theorem o_din (hu : X.A.units + 65 < cLine) : OpR X (compareOp .In) (rDIn false) := by
  intro pins s σ H x y v u Q I rx ry q
  obtain ⟨a, o, rfl, g, q⟩ := q
  obtain rfl : u = Value.ref a := ry
  exact d_in (by omega) I g rx fun s' I' => ⟨.bl o.isSome, H, I', rfl, q⟩
theorem o_dnin (hu : X.A.units + 65 < cLine) : OpR X (compareOp .NotIn) (rDIn true) := by
  intro pins s σ H x y v u Q I rx ry q
  obtain ⟨a, o, rfl, g, q⟩ := q
  obtain rfl : u = Value.ref a := ry
  exact d_notIn (by omega) I g rx fun s' I' => ⟨.bl (!o.isSome), H, I', rfl, q⟩
theorem o_cmp (op : CmpOp) (hu : X.A.units + 65 < cLine) : OpR X (compareOp op) (rCmp X.K op) := by
  cases op
  case Eq => exact op_eq.or ((op_eqD (by omega)).or (op_eqV (by omega)))
  case NotEq => exact op_ne.or (op_neD (by omega))
  case Lt => exact op_lt
  case LtE => exact op_le
  case Gt => exact op_gt
  case GtE => exact op_ge
  case Is => exact op_isN
  case IsNot => exact op_notN
  case In => exact op_in_seq.or ((op_inD hu).or ((o_din hu).or op_in_sign))
  case NotIn => exact op_notIn_seq.or ((op_notInD hu).or (o_dnin hu))
theorem o_inK (ng : Bool) : OpR X (compareOp (if ng = true then .NotIn else .In)) (rInK X.K X.w ng) := by
  intro pins s σ H x y v u Q I rx ry q
  obtain ⟨p, z, b, rfl, rfl, ⟨es, n, r, hl, hk, low, e, rfl⟩, q⟩ := q
  obtain rfl : u = Value.ref p := ry
  obtain ⟨t, rfl⟩ := rx
  have hm := PySem.W.mapOf_K (prog := X.prog) (w := X.w) I.kIn hl hk
  have fk := PySem.W.find_K hl e
  cases ng with
  | false =>
    refine wpAny_in_of (strKind_is X.prog X.w z t) low hm ?_
    rw [fk]
    exact ⟨.bl r.isSome, H, I.tok _, rfl, q⟩
  | true =>
    refine wpAny_notIn_of (strKind_is X.prog X.w z t) low hm ?_
    rw [fk]
    exact ⟨.bl (!r.isSome), H, I.tok _, rfl, q⟩
theorem x_dict (hu : X.A.units + 65 < cLine) : IxR X rIxD := by
  intro value slice pins s σ H x y v u Q I rx ry h hs
  obtain ⟨a, z, rfl, g, q⟩ := h
  obtain rfl : v = Value.ref a := rx
  exact tail_any (dict_typeIs I g) PySem.F.slot_dict_getitem.lookup (d_getItem (by omega) I g ry fun w' s' I' r' => ⟨z, H, I', r', q⟩) hs
theorem x_sub (hu : X.A.units + 65 < cLine) : IxR X (rSubs X.K) := ix_seq.or (x_dict hu)
theorem x_cut : SlR X (rCut X.K) := sl_list.or (sl_tupA.or sl_str)
def biV : Bi → Value
  | .len => .builtin "len" | .isinstance => .builtin "isinstance" | .int => .type "int" | .bool => .type "bool" | .str => .type "str" | .list => .type "list" | .tuple => .type "tuple"
  | .sorted => .builtin "sorted" | .min => .builtin "min" | .max => .builtin "max" | .abs => .builtin "abs" | .sum => .builtin "sum" | .any => .builtin "any" | .all => .builtin "all"
theorem c_bi {xc : XC} (b : Bi) (hc : quB b = true ∨ X.calm = true) (hx : CallR X (.builtin "isinstance") (rIsH X.K xc)) : CallR X (biV b) (rBi X.K xc b) := by
  cases b
  case len => exact call_len
  case isinstance => exact (call_isi.or call_isiT).or hx
  case int => exact call_int1.or call_int_str
  case bool => exact call_bool1
  case str => exact call_str_int.or SkE.call_str_str
  case list => exact call_list_of
  case tuple => exact call_tuple_of
  case sorted => exact cr_sorted
  case min => exact call_min2 (hc.resolve_left (fun z => by cases z))
  case max => exact call_max2 (hc.resolve_left (fun z => by cases z))
  case abs => exact call_abs
  case sum => exact cr_sum (hc.resolve_left (fun z => by cases z))
  case any => exact cr_any (hc.resolve_left (fun z => by cases z))
  case all => exact cr_all (hc.resolve_left (fun z => by cases z))
theorem b_bi (b : Bi) : bootBuiltins (biName b) = some (biV b) ∧ ((∃ i, biV b = .builtin i) ∨ ∃ i, biV b = .type i) ∧ biName b ≠ "__name__" ∧ (biName b == ("__debug__" : Str)) = false := by
  cases b <;> refine ⟨by decide +kernel, ?_, by decide +kernel, by decide +kernel⟩ <;> first | exact .inl ⟨_, rfl⟩ | exact .inr ⟨_, rfl⟩
end
end Zw

set_option Elab.async false
set_option linter.all false
set_option maxRecDepth 100000
set_option maxHeartbeats 4000000
namespace Zw
open PySem PySem.Spec PyProof.Rows L2
section
variable {X : Cx}
theorem MtRi {id : String} {r r' : V → List V → Hp → VK → Prop} (h : MtR X id r) (i : ∀ x vs H Q, r' x vs H Q → r x vs H Q) : MtR X id r' := fun pins s σ H x xs v us Q I rx rs q => h pins s σ H x xs v us Q I rx rs (i _ _ _ _ q)
theorem m_dget1 (hu : X.A.units + 65 < cLine) : MtR X "dict.get" (rMt X.K .dget1) := by
  intro pins s σ H x xs v us Q I rx rs q
  obtain ⟨a, y, o, rfl, rfl, g, q⟩ := q
  obtain rfl : v = Value.ref a := rx
  obtain ⟨u, rfl, ru⟩ := Vals.one rs
  exact d_get1 (by omega) I g ru fun w' s' I' r' => ⟨_, H, I', r', q⟩
theorem m_dget2 (hu : X.A.units + 65 < cLine) : MtR X "dict.get" (rMt X.K .dget2) := by
  intro pins s σ H x xs v us Q I rx rs q
  obtain ⟨a, y, d, o, rfl, rfl, g, q⟩ := q
  obtain rfl : v = Value.ref a := rx
  obtain ⟨u, u2, rfl, ru, ru2⟩ := Vals.two rs
  exact d_get2 (by omega) I g ru ru2 fun w' s' I' r' => ⟨_, H, I', r', q⟩
theorem m_dpop1 : MtR X "dict.pop" (rMt X.K .dpop1) := by
  intro pins s σ H x xs v us Q I rx rs q
  obtain ⟨a, kvs, k, z, rfl, rfl, e, l, q⟩ := q
  obtain rfl : v = Value.ref a := rx
  obtain ⟨u, rfl, ru⟩ := Vals.one rs
  exact d_pop I e ru l (.inl rfl) fun w' s' I' r' => ⟨_, _, I', r', q⟩
theorem m_dpop2 : MtR X "dict.pop" (rMt X.K .dpop2) := by
  intro pins s σ H x xs v us Q I rx rs q
  obtain ⟨a, kvs, k, d, rfl, rfl, e, q⟩ := q
  obtain rfl : v = Value.ref a := rx
  obtain ⟨u, u2, rfl, ru, ru2⟩ := Vals.two rs
  rcases q with ⟨z, l, q⟩ | ⟨l, q⟩
  · exact d_pop I e ru l (.inr ⟨_, rfl⟩) fun w' s' I' r' => ⟨_, _, I', r', q⟩
  · exact d_popD I e ru l fun s' I' => ⟨_, _, I', ru2, q⟩
/-- what the library knows of a built-in value's method -/
theorem count_eqU {y : V} : ∀ {ys : List V} {its : List Value}, Vals ys its → ys.all flatV = true → its.countP (eqU y) = ys.countP fun z => eqV z y
  | _, _, .nil, _ => rfl
  | z :: _, _, .cons r t, f => by
    obtain ⟨f1, f2⟩ := Bool.and_eq_true_iff.mp f
    rw [List.countP_cons, List.countP_cons, count_eqU t f2, eqU_of r f1] <;> rfl
theorem m_count : MtR X "list.count" (rMt X.K .count) := by
  intro pins s σ H x xs v us Q I rx rxs h
  obtain ⟨a, ys, y, rfl, rfl, hs, fy, fys, q⟩ := h
  cases rx
  cases rxs with
  | cons ry rt =>
    rename_i uy ut
    cases rt
    obtain ⟨its, rv, ⟨⟨cls, dd, data, sl⟩, n, ho, hc, hdn, hd⟩, hlen⟩ := I.list hs
    simp only at hc hd
    subst hc hd
    refine call_meets PySem.F.slot_list_count ⟨_, ho, rfl⟩ PySem.F.entry_list_count (PySem.F.args_list_count_2 _ _)
      (SeqAt.list_countAt a its.toArray n dd sl uy (eqU y)) ⟨ho, fun u' hu' => mem_eqAt ry fy rv fys u' (by simpa using hu'), ?_⟩
    have ec : its.toArray.toList.countP (eqU y) = ys.countP fun z => eqV z y := count_eqU rv fys
    refine ⟨.int (ys.countP fun z => eqV z y : Nat), H, I.tok _, ⟨s.toks, ?_⟩, q⟩
    show Value.int ((its.toArray.toList.countP (eqU y) : Nat) : Int) s.toks = _
    rw [ec]
theorem m_all (hu : X.A.units + 65 < cLine) (t : Mt) : ∃ id : String, PlainAttrs (mtT t) ∧ Slot (mtT t) (mtName t) id ∧ typeOf (.builtin id) = pure (.type "method_descriptor") ∧ MtR X id (rMt X.K t) := by
  cases t
  case append => exact ⟨_, PySem.F.plainAttrs_list, PySem.F.slot_list_append, PySem.F.type_list_append, mt_append⟩
  case pop => exact ⟨_, PySem.F.plainAttrs_list, PySem.F.slot_list_pop, PySem.F.type_list_pop, mt_pop⟩
  case popAt => exact ⟨_, PySem.F.plainAttrs_list, PySem.F.slot_list_pop, PySem.F.type_list_pop, mt_popAt⟩
  case extend => exact ⟨_, PySem.F.plainAttrs_list, PySem.F.slot_list_extend, PySem.F.type_list_extend, mt_extend⟩
  case clear => exact ⟨_, PySem.F.plainAttrs_list, PySem.F.slot_list_clear, PySem.F.type_list_clear, mt_clear⟩
  case reverse => exact ⟨_, PySem.F.plainAttrs_list, PySem.F.slot_list_reverse, PySem.F.type_list_reverse, mt_reverse⟩
  case index => exact ⟨_, PySem.F.plainAttrs_list, PySem.F.slot_list_index, PySem.F.type_list_index, mt_index.or (mt_indexD hu)⟩
  case count => exact ⟨_, PySem.F.plainAttrs_list, PySem.F.slot_list_count, PySem.F.type_list_count, m_count⟩
  case insert => exact ⟨_, PySem.F.plainAttrs_list, PySem.F.slot_list_insert, PySem.F.type_list_insert, mt_insert⟩
  case dget1 => exact ⟨_, PySem.F.plainAttrs_dict, PySem.F.slot_dict_get, PySem.F.type_dict_get, m_dget1 hu⟩
  case dget2 => exact ⟨_, PySem.F.plainAttrs_dict, PySem.F.slot_dict_get, PySem.F.type_dict_get, m_dget2 hu⟩
  case dpop1 => exact ⟨_, PySem.F.plainAttrs_dict, PySem.F.slot_dict_pop, PySem.F.type_dict_pop, m_dpop1⟩
  case dpop2 => exact ⟨_, PySem.F.plainAttrs_dict, PySem.F.slot_dict_pop, PySem.F.type_dict_pop, m_dpop2⟩
  case split => exact ⟨_, PySem.F.plainAttrs_str, PySem.F.slot_str_split, PySem.F.type_str_split, mt_split⟩
  case join => exact ⟨_, PySem.F.plainAttrs_str, PySem.F.slot_str_join, PySem.F.type_str_join, mt_join⟩
  case isdigit => exact ⟨_, PySem.F.plainAttrs_str, PySem.F.slot_str_isdigit, PySem.F.type_str_isdigit, mt_isdigit⟩
  case update => exact ⟨_, PySem.F.plainAttrs_dict, PySem.F.slot_dict_update, PySem.F.type_dict_update, m_update⟩

/-- a method's call, whatever the receiver is -/
theorem meth_at {prog : Program} {w : World} {A : Around} {E : Value → Shared → Prop} {s : Shared} {env : Env} {o : Expr} {name : Str} {apos pos : Pos} {args : List Expr} {Q : Value → Shared → Prop}
    (hbase : attributeBase o name env (eval o env) = eval o env) (hfew : ((backTo pos (starEach args env)).all (fun x => !x.1) && (backToKw pos (keywordEach [] env)).all (fun x => x.1.isSome)
      && decide (args.length + ([] : List Keyword).length + (if ([] : List Keyword).isEmpty then 0 else 1) < 30)) = true) (hline : (apos.endLine == pos.line) = true)
    (h : wpAny (model prog w) A (eval o env) (fun ov s₁ => ∀ pl, wpAny (model prog w) A (getMethod ov name pl) (fun fx s2 => wpAny (model prog w) A (callWith pos fx.1 fx.2 (backTo pos (starEach args env)) []) Q E s2) E s₁) E s) :
    wpAny (model prog w) A (eval (.Call (.Attribute o name apos) args [] pos) env) Q E s := by
  rw [arm_eval_Call, hbase]
  refine wpAny_bind (wpAny_mono h (fun ov s₁ h₁ => ?_) fun _ _ e => e)
  refine wpAny_bind (wpAny_standAt ?_)
  have hform : methodCallForm (args.length + ([] : List Keyword).length) (backTo pos (starEach args env)) (backToKw pos (keywordEach [] env)) = true := hfew
  have hpos : methodCallPos true o env apos pos = pure pos := by unfold methodCallPos; simp [hline]
  unfold methodCall
  rw [hform]
  refine wpAny_bind (wpAny_holding (wpAny_mono (h₁ _) (fun fx s2 h2 => ?_) fun _ _ e => e))
  exact wpAny_bind (wpAny_of_eq hpos h2)
end
end Zw

set_option Elab.async false
set_option linter.all false
set_option maxRecDepth 100000
set_option maxHeartbeats 4000000
namespace Zw
open PySem PySem.Spec PyProof.Rows L2
section
variable {X : Cx} {ta : List (Addr × Str)} {mm : MT} {xc : XC} {tp : Md}
theorem Room.u65 {k : Nat} {A : Around} (r : Room k A) : A.units + 65 < cLine := by have := r.un; omega
/-- argument lists -/
theorem pa_of {k : Nat} {W : WX} {f : Expr → Option E} (hf : ∀ e m, f e = some m → PE X e (wE (rx X ta mm xc) k m W)) : ∀ {es : List Expr} {ms : Es}, cEs f es = some ms → PA X es (wEs (rx X ta mm xc) k ms W)
  | [], ms, h => by
    cases h
    exact pa_nil
  | e :: r, ms, h => by
    unfold cEs at h
    split at h
    · rename_i m ms' h1 h2 h3
      cases h
      exact pa_cons (hf _ _ h2) (pa_of hf h3) (starEach_ns h1)
    · cases h
theorem cEs_ns {f : Expr → Option E} {e : Expr} {r : List Expr} {ms : Es} (h : cEs f (e :: r) = some ms) : nsB e = true ∧ ∃ m ms', ms = .cons m ms' ∧ cEs f r = some ms' := by
  unfold cEs at h
  split at h
  · rename_i m ms' h1 h2 h3
    cases h
    exact ⟨h1, m, ms', rfl, h3⟩
  · cases h
theorem star_any {f : Expr → Option E} {env : Env} {pos : Pos} : ∀ {es : List Expr} {ms : Es}, cEs f es = some ms → (backTo pos (starEach es env)).any (·.1) = false
  | [], ms, h => rfl
  | e :: r, ms, h => by
    obtain ⟨h1, m, ms', _, h2⟩ := cEs_ns h
    rw [starEach_ns h1]
    show (false || (backTo pos (starEach r env)).any (·.1)) = false
    rw [star_any h2] <;> rfl
theorem star_all {f : Expr → Option E} {env : Env} {pos : Pos} : ∀ {es : List Expr} {ms : Es}, cEs f es = some ms → (backTo pos (starEach es env)).all (fun x => !x.1) = true
  | [], ms, h => rfl
  | e :: r, ms, h => by
    obtain ⟨h1, m, ms', _, h2⟩ := cEs_ns h
    rw [starEach_ns h1]
    show (!false && (backTo pos (starEach r env)).all (fun x => !x.1)) = true
    rw [star_all h2] <;> rfl
theorem pps_of {k : Nat} {W : WX} {pos : Pos} {f : Expr → Option E} (hf : ∀ e m, f e = some m → PE X e (wE (rx X ta mm xc) k m W)) : ∀ {ks : List (Option Expr)} {vs : List Expr} {ms : Es}, cPs f ks vs = some ms → PPs X pos ks vs (wPs (rx X ta mm xc) k ms W) ∧ ks.all (·.isSome) = true
  | [], [], ms, h => by
    cases h
    exact ⟨pps_nil, rfl⟩
  | some a :: r, b :: q, ms, h => by
    unfold cPs at h
    split at h
    · rename_i m n ms' h1 h2 h3
      cases h
      obtain ⟨p1, p2⟩ := pps_of hf (pos := pos) h3
      exact ⟨pps_cons (hf _ _ h1) (hf _ _ h2) p1, by simpa using p2⟩
    · cases h
  | none :: _, _, _, h => by cases h
  | some _ :: _, [], _, h => by cases h
  | [], _ :: _, _, h => by cases h
theorem po_of {k : Nat} {W : WX} {f : Expr → Option E} (hf : ∀ e m, f e = some m → PE X e (wE (rx X ta mm xc) k m W)) : ∀ {o : Option Expr} {m : O}, cO f o = some m → PO X o (wO (rx X ta mm xc) k m W)
  | none, m, h => by
    cases h
    exact po_none
  | some e, m, h => by
    unfold cO at h
    obtain ⟨x, h1, h2⟩ := Option.map_eq_some_iff.mp h
    cases h2
    exact po_some (hf _ _ h1)
/-- targets of names -/
theorem nmIx_get {N : List Str} {sc : Scope} {c : Bool} {e : Expr} {i : Nat} (h : nmIx N sc c e = some i) : ∃ x p, e = .Name x p ∧ N[i]? = some x ∧ (sc.names.lookup x = some .local ∨ (c = true ∧ sc.names.lookup x = some .cell)) := by
  unfold nmIx at h
  split at h
  · rename_i x p
    split at h
    · exact ⟨x, p, rfl, ixOf_get h, .inl (by assumption)⟩
    · split at h
      · exact ⟨x, p, rfl, ixOf_get h, .inr ⟨by assumption, by assumption⟩⟩
      · cases h
    · cases h
  · cases h
/-- how names of the block's own scope stand in the context -/
def TgOk (X : Cx) (sc0 : Scope) (c : Bool) : Prop := ∀ x, (sc0.names.lookup x = some .local → X.env.scope.names.lookup x = some .local) ∧ (c = true → sc0.names.lookup x = some .cell → X.env.scope.names.lookup x = some .cell ∧ X.fn x = true)
theorem pg_nm {sc0 : Scope} {c : Bool} {e : Expr} {i : Nat} (T : TgOk X sc0 c) (nd : X.N.Nodup) (h : nmIx X.N sc0 c e = some i) : PG X e (gName i) := by
  obtain ⟨x, p, rfl, hN, hl⟩ := nmIx_get h
  rcases hl with hl | ⟨hc, hl⟩
  · exact pg_name nd hN (.inl ((T x).1 hl)) (.inr ((T x).1 hl))
  · exact pg_name nd hN (.inr ((T x).2 hc hl).1) (.inl ((T x).2 hc hl).2)
def gMany : List Nat → TGs
  | [] => gNil
  | i :: is => gCons (gName i) (gMany is)
theorem gMany_ok : ∀ {is : List Nat} {vs : List V} {σ : L2.St} {H : Hp} {Q : L2.St → Hp → Prop}, vs.length = is.length → Q (setMany σ is vs) H → gMany is vs σ H Q
  | [], [], σ, H, Q, _, q => ⟨rfl, q⟩
  | i :: is, v :: vs, σ, H, Q, h, q => ⟨v, vs, rfl, gMany_ok (is := is) (by simpa using h) q⟩
  | [], _ :: _, _, _, _, h, _ => by cases h
  | _ :: _, [], _, _, _, h, _ => by cases h
theorem pgs_nms {sc0 : Scope} {c : Bool} (T : TgOk X sc0 c) (nd : X.N.Nodup) : ∀ {es : List Expr} {is : List Nat}, cNms (nmIx X.N sc0 c) es = some is →
    PGs X es (gMany is) ∧ (assignEach es X.env).length = is.length ∧ (assignEach es X.env).findIdx? (·.1) = none
  | [], is, h => by
    cases h
    exact ⟨pgs_nil, rfl, rfl⟩
  | e :: r, is, h => by
    unfold cNms at h
    split at h
    · rename_i i is' h1 h2
      cases h
      obtain ⟨p1, p2, p3⟩ := pgs_nms T nd h2
      have hn := nmIx_get h1
      obtain ⟨x, p, rfl, _, _⟩ := hn
      refine ⟨pgs_cons (pg_nm T nd h1) p1, ?_, ?_⟩
      · show ((assignEach r X.env).length + 1) = _
        rw [p2] <;> rfl
      · show ((false, _) :: assignEach r X.env).findIdx? (·.1) = none
        rw [List.findIdx?_cons, p3] <;> rfl
    · cases h
theorem pg_unp {sc0 : Scope} {c : Bool} (T : TgOk X sc0 c) (nd : X.N.Nodup) (hc : X.calm = true) {es : List Expr} {is : List Nat} {k : Nat} {pos : Pos} (h : cNms (nmIx X.N sc0 c) es = some is) : PG X (.Tuple es k pos) (rUnp X.K is) := by
  obtain ⟨p1, p2, p3⟩ := pgs_nms T nd h
  refine ⟨fun pins s σ H v u Q I r q => ?_⟩
  obtain ⟨a, xs, rfl, ht, hl, q⟩ := q
  rcases ht with ht | ht
  · exact (pg_tup (n := is.length) hc p1 p2 p3).run pins s σ H _ u Q I r ⟨a, xs, rfl, ht, hl, gMany_ok hl q⟩
  · exact (pg_lst (n := is.length) hc p1 p2 p3).run pins s σ H _ u Q I r ⟨a, xs, rfl, ht, hl, gMany_ok hl q⟩
theorem pg_tg {sc0 : Scope} {c : Bool} (T : TgOk X sc0 c) (nd : X.N.Nodup) (hc : X.calm = true) {tg : Expr} {g : Tg} (h : cTg X.N sc0 c tg = some g) : PG X tg (gTg X.K g) := by
  unfold cTg at h
  split at h
  · obtain ⟨i, h1, h2⟩ := Option.map_eq_some_iff.mp h
    cases h2
    exact pg_nm T nd h1
  · obtain ⟨is, h1, h2⟩ := Option.map_eq_some_iff.mp h
    cases h2
    exact pg_unp T nd hc h1
  · cases h

/-- what a for walks -/
theorem pi_seq {e tg : Expr} {te : TE} (he : PE X e te) : PI X tg e (fun σ H S => te σ H fun x H1 => (∃ a, x = .ref a ∧ (∃ xs, SqL X.K H1 a xs) ∧ S (Itl X.K a) H1) ∨ (∃ a, x = .ref a ∧ (∃ xs, SqT X.K H1 a xs) ∧ S (Itt X.K a) H1) ∨
      (∃ d o kvs, x = .ref d ∧ H1 d = some (.frz o (.dK kvs)) ∧ S (Itk d o kvs) H1) ∨ (∃ z, x = .str z ∧ S (Its z) H1)) := by
  refine ⟨fun pins s σ H R I h => ?_⟩
  refine thn (he.run pins s σ H _ I h) fun v s1 ⟨x, H1, I1, r1, q1⟩ => ?_
  rcases q1 with ⟨a, e, ⟨xs, hq⟩, q⟩ | ⟨a, e, ⟨xs, hq⟩, q⟩ | ⟨d, o, kvs, e, hd, q⟩ | ⟨z, e, q⟩
  · subst e
    cases r1
    obtain ⟨its, rv, p, hz⟩ := I1.list hq
    refine wpAny_pyIter_list p.isList ?_
    refine ⟨s1.heap.objs.size, [s1.heap.objs.size], _, _, H1, rfl, I1.kept (t' := s1.toks) fun b o e => Heap.get?_push_of_some _ e, turn_list a _, ⟨_, Heap.get?_push_size _ rfl, rfl, rfl⟩, fun b hb => ?_, q⟩
    have e : b = s1.heap.objs.size := by simpa using hb
    subst e
    exact I1.fpOk (Nat.le_refl _) (I1.hok.fresh (Nat.le_refl _))
  · subst e
    cases r1
    obtain ⟨its, rv, p, hz⟩ := I1.tuple hq
    refine wpAny_pyIter_tuple (show s1.heap.IsTuple a its.toArray from p) ?_
    refine ⟨s1.heap.objs.size, [s1.heap.objs.size], _, _, H1, rfl, I1.kept (t' := s1.toks) fun b o e => Heap.get?_push_of_some _ e, turn_tuple a _, ⟨_, Heap.get?_push_size _ rfl, rfl, rfl⟩, fun b hb => ?_, q⟩
    have e : b = s1.heap.objs.size := by simpa using hb
    subst e
    exact I1.fpOk (Nat.le_refl _) (I1.hok.fresh (Nat.le_refl _))
  · subst e
    obtain rfl : v = Value.ref d := r1
    obtain ⟨hs, hgd, hx, es, ep, vs, hdt, hsz, kv, hm⟩ := I1.frzK hd
    refine iter_keys hs hgd hx hdt (pi_one (tk := s1.toks) I1 _ (turn_keys _ hdt) ⟨_, Heap.get?_push_size _ rfl, rfl, ?_⟩ q)
    rw [hsz] <;> rfl
  · subst e
    obtain ⟨t, rfl⟩ := r1
    cases ha : z.cps.all (· < 128)
    · exact wpAny_pyIter_wide ha (pi_one (tk := s1.toks) I1 _ (turn_str _ z t "str_iterator" (.inr rfl)) ⟨_, Heap.get?_push_size _ rfl, rfl, rfl⟩ q)
    · exact wpAny_pyIter_ascii ha (pi_one (tk := s1.toks) I1 _ (turn_str _ z t "str_ascii_iterator" (.inl rfl)) ⟨_, Heap.get?_push_size _ rfl, rfl, rfl⟩ q)
theorem PIi {tg e : Expr} {t t' : TI} (h : PI X tg e t) (i : ∀ σ H Q, t' σ H Q → t σ H Q) : PI X tg e t' := ⟨fun pins s σ H Q I q => h.run pins s σ H Q I (i σ H Q q)⟩
end
end Zw

set_option Elab.async false
set_option linter.all false
set_option maxRecDepth 100000
set_option maxHeartbeats 8000000
namespace Zw
open PySem PySem.Spec PyProof.Rows L2
section
variable {X : Cx} {ta : List (Addr × Str)} {mm : MT} {xc : XC} {tp : Md}
theorem clsNames_blt : ∀ x ∈ clsNames, x ∈ bltNames := by decide +kernel
theorem Gd.gl {k : Nat} {sc : Scope} {N : List Str} {W : WX} {x : Str} (g : Gd ta mm xc tp k sc N W X) (h : glB sc x = true) : Gl X x := by
  have := glB_gl h
  rw [← g.sc] at this
  exact this
theorem Gd.vis {k : Nat} {sc : Scope} {N : List Str} {W : WX} {x : Str} (g : Gd ta mm xc tp k sc N W X) (h : visB sc x = true) : Vis X.env.scope x := by
  rw [g.sc]
  exact visB_vis h
/-- the range, enumerate, zip of a for; what else is walked -/
theorem pi_of {k : Nat} {sc : Scope} {N : List Str} {W : WX} (g : Gd ta mm xc tp k sc N W X) {f : Expr → Option E} (hf : ∀ e m, f e = some m → PE X e (wE (rx X ta mm xc) k m W)) {tg it : Expr} {m : I} (h : cI f sc tg it = some m) :
    PI X tg it (wI (rx X ta mm xc) k m W) := by
  have seq : ∀ {e : Expr} {m : I}, (f e).map I.seq = some m → PI X tg e (wI (rx X ta mm xc) k m W) := fun {e m} h => by
    obtain ⟨x, h1, h2⟩ := Option.map_eq_some_iff.mp h
    cases h2
    exact pi_seq (hf _ _ h1)
  unfold cI at h
  split at h
  · rename_i x p args pos
    split at h
    · rename_i hg
      have gl := g.gl hg
      split at h
      · rename_i hx
        subst hx
        have hm : X.mg "range" = none := g.blt _ (by decide +kernel)
        split at h
        · rename_i a
          split at h
          · rename_i hn
            obtain ⟨x, h1, h2⟩ := Option.map_eq_some_iff.mp h
            cases h2
            refine PIi (pi_range1 gl hm (pa_cons (hf _ _ h1) pa_nil (starEach_ns hn)) (starEach_ns hn)) fun σ H Q q => ?_
            refine (show wE (rx X ta mm xc) k x W σ H fun x H1 => ∃ j : Int, [x] = [V.int j] ∧ -(2 ^ 62) ≤ j ∧ j < 2 ^ 62 ∧ Q (Itr 0 j.toNat) H1 from ?_)
            have mono : (fun (x : V) (H1 : Hp) => ∃ j : Int, x = .int j ∧ -(2 ^ 62) ≤ j ∧ j < 2 ^ 62 ∧ Q (Itr 0 j.toNat) H1) = fun x H1 => ∃ j : Int, [x] = [V.int j] ∧ -(2 ^ 62) ≤ j ∧ j < 2 ^ 62 ∧ Q (Itr 0 j.toNat) H1 := by
              funext x H1
              simp
            rw [← mono]
            exact q
          · cases h
        · rename_i a b
          split at h
          · rename_i hn
            simp only [Bool.and_eq_true] at hn
            split at h
            · rename_i m n h1 h2
              cases h
              refine PIi (pi_range2 gl hm (pa_cons (hf _ _ h1) (pa_cons (hf _ _ h2) pa_nil (starEach_ns hn.2)) (starEach_ns hn.1)) (by rw [starEach_ns hn.1, starEach_ns hn.2]; rfl) (starEach_ns hn.2)) fun σ H Q q => ?_
              refine (show wE (rx X ta mm xc) k m W σ H fun x H1 => wE (rx X ta mm xc) k n W σ H1 fun y H2 => ∃ i j : Int, [x, y] = [V.int i, V.int j] ∧ (-(2 ^ 62) ≤ i ∧ i < 2 ^ 62 ∧ -(2 ^ 62) ≤ j ∧ j < 2 ^ 62) ∧ Q (Itr i (j - i).toNat) H2 from ?_)
              have mono : ∀ x : V, (fun (y : V) (H2 : Hp) => ∃ i j : Int, x = .int i ∧ y = .int j ∧ (-(2 ^ 62) ≤ i ∧ i < 2 ^ 62 ∧ -(2 ^ 62) ≤ j ∧ j < 2 ^ 62) ∧ Q (Itr i (j - i).toNat) H2) = fun y H2 => ∃ i j : Int, [x, y] = [V.int i, V.int j] ∧ (-(2 ^ 62) ≤ i ∧ i < 2 ^ 62 ∧ -(2 ^ 62) ≤ j ∧ j < 2 ^ 62) ∧ Q (Itr i (j - i).toNat) H2 := by
                intro x
                funext y H2
                simp [and_assoc]
              simp only [← mono]
              exact q
            · cases h
          · cases h
        · cases h
      · split at h
        · rename_i hx
          subst hx
          have hm : X.mg "enumerate" = none := g.blt _ (by decide +kernel)
          split at h
          · rename_i a
            split at h
            · rename_i hn
              simp only [Bool.and_eq_true] at hn
              obtain ⟨x, h1, h2⟩ := Option.map_eq_some_iff.mp h
              cases h2
              cases tg with
              | Tuple elts kk tpos =>
                refine PIi (pi_enum gl hm (pa_cons (hf _ _ h1) pa_nil (starEach_ns hn.1)) (starEach_ns hn.1)) fun σ H Q q => ?_
                refine (show wE (rx X ta mm xc) k x W σ H fun x H1 => ∃ a xs, [x] = [V.ref a] ∧ SqL X.K H1 a xs ∧ Q (Ite X.K a) H1 from ?_)
                have mono : (fun (x : V) (H1 : Hp) => ∃ a xs, x = V.ref a ∧ SqL X.K H1 a xs ∧ Q (Ite X.K a) H1) = fun x H1 => ∃ a xs, [x] = [V.ref a] ∧ SqL X.K H1 a xs ∧ Q (Ite X.K a) H1 := by
                  funext x H1
                  simp
                rw [← mono]
                exact q
              | _ => cases hn.2
            · cases h
          · cases h
        · split at h
          · rename_i hx
            subst hx
            have hm : X.mg "zip" = none := g.blt _ (by decide +kernel)
            split at h
            · rename_i a b
              split at h
              · rename_i hn
                simp only [Bool.and_eq_true] at hn
                split at h
                · rename_i m n h1 h2
                  cases h
                  cases tg with
                  | Tuple elts kk tpos =>
                    refine PIi (pi_zip gl hm (pa_cons (hf _ _ h1) (pa_cons (hf _ _ h2) pa_nil (starEach_ns hn.1.2)) (starEach_ns hn.1.1)) (starEach_ns hn.1.1) (by rw [starEach_ns hn.1.2]; rfl)) fun σ H Q q => ?_
                    refine (show wE (rx X ta mm xc) k m W σ H fun x H1 => wE (rx X ta mm xc) k n W σ H1 fun y H2 => ∃ a b xs ys, [x, y] = [V.ref a, V.ref b] ∧ SqL X.K H2 a xs ∧ SqL X.K H2 b ys ∧ Q (Itz X.K a b) H2 from ?_)
                    have mono : ∀ x : V, (fun (y : V) (H2 : Hp) => ∃ a b xs ys, x = V.ref a ∧ y = V.ref b ∧ SqL X.K H2 a xs ∧ SqL X.K H2 b ys ∧ Q (Itz X.K a b) H2) = fun y H2 => ∃ a b xs ys, [x, y] = [V.ref a, V.ref b] ∧ SqL X.K H2 a xs ∧ SqL X.K H2 b ys ∧ Q (Itz X.K a b) H2 := by
                      intro x
                      funext y H2
                      simp [and_assoc]
                    simp only [← mono]
                    exact q
                  | _ => cases hn.2
                · cases h
              · cases h
            · cases h
          · split at h
            · cases h
            · exact seq h
    · exact seq h
  · rename_i o mm apos cpos
    split at h
    · rename_i hmm
      subst hmm
      split at h
      · rename_i hn
        simp only [Bool.and_eq_true, Bool.not_eq_true'] at hn
        obtain ⟨x, h1, h2⟩ := Option.map_eq_some_iff.mp h
        cases h2
        cases tg with
        | Tuple elts kk tpos => exact pi_items (hf _ _ h1) (base_ns hn.1.2) hn.2
        | _ => cases hn.1.1
      · cases h
    · split at h
      · cases h
      · exact seq h
  · cases h
  · split at h
    · cases h
    · exact seq h
end
end Zw

set_option Elab.async false
set_option linter.all false
set_option maxRecDepth 100000
set_option maxHeartbeats 8000000
namespace Zw
open PySem PySem.Spec PyProof.Rows L2
theorem relS_keep {scope sc : Scope} {x : Str} {k : NameKind} (hk : k ≠ .free) (h : scope.names.lookup x = some k) : (relS scope sc).names.lookup x = some k := by
  show (scope.names.map _).lookup x = some k
  generalize scope.names = l at h
  induction l with
  | nil => cases h
  | cons y r ih =>
    obtain ⟨n, k'⟩ := y
    rw [List.lookup_cons] at h
    simp only [List.map_cons]
    by_cases hx : x == n
    · rw [hx] at h
      cases h
      have : ¬ ((k == NameKind.free && sc.kind == .function && sc.names.lookup n == some .cell) = true) := by
        intro z
        simp only [Bool.and_eq_true, beq_iff_eq] at z
        exact hk z.1.1
      rw [if_neg this, List.lookup_cons, hx]
    · have hx' : (x == n) = false := by simpa using hx
      rw [hx'] at h
      split <;> (rw [List.lookup_cons, hx']; exact ih h)
section
variable {X : Cx} {ta : List (Addr × Str)} {mm : MT} {xc : XC} {tp : Md}
theorem Gd.w0 {k : Nat} {sc : Scope} {N : List Str} {W : WX} (g : Gd ta mm xc tp k sc N W X) : Gd ta mm xc tp k sc N W0 X := ⟨g.N, g.nd, g.sc, g.room, g.u65, g.calm, takes0, g.own, g.blt, g.exn, g.exq, g.exi, g.lam⟩
theorem Gd.blk {k : Nat} {sc : Scope} {N : List Str} {W : WX} (g : Gd ta mm xc tp k sc N W X) (hcm : tp.c = true) (scope : Scope) (s : Shared) (H : Hp) (C : Addr) (cl : List (Str × Addr)) (fp : List Addr) : Gd ta mm xc .no k (relS scope sc) N W0 (X.blk s H scope (compEnvC scope cl C X.env) fp) := by
  refine ⟨g.N, g.nd, ?_, fun _ => g.room hcm, g.u65, fun _ => g.calm hcm, takes0, PassesOwn.never, g.blt, fun _ => g.exn hcm, (fun z => by cases z), (fun z => by cases z), (fun z => by cases z)⟩
  show (compEnvC scope cl C X.env).scope = _
  rw [← g.sc] <;> rfl
theorem tg_blk {scope : Scope} (s : Shared) (H : Hp) (C : Addr) (cl : List (Str × Addr)) (fp : List Addr) : TgOk (X.blk s H scope (compEnvC scope cl C X.env) fp) scope true := fun x => by
  have e : (X.blk s H scope (compEnvC scope cl C X.env) fp).env.scope = relS scope X.env.scope := rfl
  rw [e]
  refine ⟨fun h => relS_keep (by decide) h, fun _ h => ⟨relS_keep (by decide) h, ?_⟩⟩
  show (scope.names.lookup x == some .cell) = true
  rw [h] <;> rfl
theorem PEor {e : Expr} {t t' : TE} (h : PE X e t) (h' : PE X e t') : PE X e (fun σ H Q => t σ H Q ∨ t' σ H Q) := ⟨fun pins s σ H Q I q => q.elim (h.run pins s σ H Q I) (h'.run pins s σ H Q I)⟩
theorem PSor {e : Stmt} {t t' : TS} (h : PS X e t) (h' : PS X e t') : PS X e (fun D σ H => t D σ H ∨ t' D σ H) := ⟨fun pins s σ H Q I q => q.elim (h.run pins s σ H Q I) (h'.run pins s σ H Q I)⟩
theorem chain_m {o1 o2 : CmpOp} {b c : Expr} (hb : setB b = false) (hc : setB c = false) : lastMarks [o1, o2] [b, c] = false := by
  show behindInMarks o2 c = false
  cases c <;> first | rfl | cases hc
/-- f(..) of the module -/
theorem pe_glcall {k : Nat} {sc : Scope} {N : List Str} {W : WX} (g : Gd ta mm xc tp k sc N W X) (hcm : tp.c = true) {f : Expr → Option E} (hf : ∀ e m, f e = some m → PE X e (wE (rx X ta mm xc) k m W)) {x : Str} {p pos : Pos} {args : List Expr} {es : Es} (hx : glB sc x = true) (ho : okName x = true) (h : cEs f args = some es) :
    PE X (.Call (.Name x p) args [] pos) (wE (rx X ta mm xc) k (.call x es) W) := by
  have gl := g.gl hx
  obtain ⟨hd, hcd, hn⟩ := okName_d ho
  refine ⟨fun pins s σ H Q I q => ?_⟩
  obtain ⟨a, hm, hk, q⟩ := q
  refine wpAny_Call_Name_kw (ld_glob I gl hm ?_ hd)
  cases args with
  | nil =>
    cases h
    obtain ⟨sp, c, q⟩ := q
    exact PySem.W.callWith_K0 I.kIn hk (c.run X rfl (g.room hcm) pins σ H s Q _ [] [] I (passAt g.tk σ) .nil q)
  | cons e r =>
    obtain ⟨h1, m, ms', rfl, h2⟩ := cEs_ns h
    refine PySem.W.callWith_K (h₀ := X.base) I.ok.mod.kin hk (thn ((pa_of hf h).run pos pins s σ H _ I q) fun us s1 ⟨vs, H1, I1, r1, sp, c, q1⟩ => ⟨I1.kIn, ?_⟩) (starEach_ns h1) (star_any h2)
    exact c.run X rfl (g.room hcm) pins σ H1 s1 Q _ us vs I1 (passAt g.tk σ) r1 q1
/-- o.m(..) -/
theorem pe_ometh {k : Nat} {sc : Scope} {N : List Str} {W : WX} (g : Gd ta mm xc tp k sc N W X) {f : Expr → Option E} (hf : ∀ e m, f e = some m → PE X e (wE (rx X ta mm xc) k m W)) {o : Expr} {m : Str} {a : E} {apos pos : Pos} {args : List Expr} {es : Es}
    (ho : PE X o (wE (rx X ta mm xc) k a W)) (hc : callB o = false) (hl : (apos.endLine == pos.line) = true) (h30 : args.length < 30) (h : cEs f args = some es) : PE X (.Call (.Attribute o m apos) args [] pos) (wE (rx X ta mm xc) k (.meth a m (mtsOf m) es) W) := by
  refine ⟨fun pins s σ H Q I q => ?_⟩
  refine meth_at (base_ns hc) ?_ hl (thn (ho.run pins s σ H _ I q) fun v s1 ⟨x, H1, I1, r1, q1⟩ pl => ?_)
  · rw [star_all h]
    simp [h30, backToKw, keywordEach]
  · rcases q1 with ⟨hxn, p, C, dx, fs, gg, rfl, e, cl, hm, lk, q1⟩ | ⟨t, ht, ty, q1⟩
    · obtain rfl : v = Value.ref p := r1
      refine getmeth_ok I1 e cl hm lk ?_
      cases args with
      | nil =>
        cases h
        obtain ⟨sp, c, q1⟩ := q1
        exact PySem.W.callWith_K0 (first := [.ref p]) I1.kIn hm.kp (c.run X rfl (g.room (g.c_of hxn)) pins σ H1 s1 Q _ [.ref p] [.ref p] I1 (passAt g.tk σ) (.cons rfl .nil) q1)
      | cons e r =>
        obtain ⟨h1, m', ms', rfl, h2⟩ := cEs_ns h
        refine PySem.W.callWith_K (first := [.ref p]) (h₀ := X.base) I.ok.mod.kin hm.kp (thn ((pa_of hf h).run pos pins s1 σ H1 _ I1 q1) fun us s2 ⟨vs, H2, I2, r2, sp, c, q2⟩ => ⟨I2.kIn, ?_⟩) (starEach_ns h1) (star_any h2)
        exact c.run X rfl (g.room (g.c_of hxn)) pins σ H2 s2 Q _ (.ref p :: us) (.ref p :: vs) I2 (passAt g.tk σ) (.cons rfl r2) q2
    · obtain ⟨id, pa, slot, hty, mt⟩ := m_all (g.u65) t
      rw [mtsOf_name ht] at slot
      obtain ⟨h1, h2⟩ := tyV_is I1 r1 ty
      refine PySem.getMethod_builtin h1 pa slot hty h2 ?_
      cases args with
      | nil =>
        cases h
        exact Calls.callWith_builtin rfl (PySem.evalArgs_none (mt pins s1 σ H1 x [] v [] Q I1 r1 .nil q1))
      | cons e r =>
        obtain ⟨h3, m', ms', rfl, h4⟩ := cEs_ns h
        have hA := (pa_of hf h).run pos pins s1 σ H1 _ I1 q1
        rw [starEach_ns h3] at hA ⊢
        refine Calls.callWith_builtin (by show (false || (backTo pos (starEach r X.env)).any (·.1)) = false; rw [star_any h4] <;> rfl) (Calls.evalArgs_plain ?_)
        exact thn hA fun us s2 ⟨vs, H2, I2, r2, q2⟩ => mt pins s2 σ H2 x vs v us Q I2 r1 r2 q2
/-- a built-in function or type -/
theorem pe_bicall {k : Nat} {sc : Scope} {N : List Str} {W : WX} (g : Gd ta mm xc tp k sc N W X) {f : Expr → Option E} (hf : ∀ e m, f e = some m → PE X e (wE (rx X ta mm xc) k m W)) {b : Bi} {p pos : Pos} {e : Expr} {r : List Expr} {es : Es} (hx : glB sc (biName b) = true) (hq : quB b = true ∨ tp.c = true) (h : cEs f (e :: r) = some es) :
    PE X (.Call (.Name (biName b) p) (e :: r) [] pos) (wE (rx X ta mm xc) k (.callB b es) W) := by
  obtain ⟨hv, hk, hn, hd⟩ := b_bi b
  obtain ⟨h1, m, ms', rfl, h2⟩ := cEs_ns h
  have hm : X.mg (biName b) = none := g.blt _ (biName_mem b)
  rcases hk with ⟨i, hi⟩ | ⟨i, hi⟩
  · rw [hi] at hv
    have c := c_bi (X := X) b (hq.imp_right g.calm) g.ex
    rw [hi] at c
    exact pe_callB c (g.gl hx) hm hv (pa_of hf h) hn hd (starEach_ns h1) (star_any h2)
  · rw [hi] at hv
    have c := c_bi (X := X) b (hq.imp_right g.calm) g.ex
    rw [hi] at c
    exact pe_callTy c (g.gl hx) hm hv (pa_of hf h) hn hd (starEach_ns h1) (star_any h2)
/-- a call to which lambdas are handed -/
theorem pe_zcall {k : Nat} {sc : Scope} {N : List Str} {W : WX} (g : Gd ta mm xc tp k sc N W X) {f : Expr → Option E} (hf : ∀ e m, f e = some m → PE X e (wE (rx X ta mm xc) k m W)) {x : Str} {p pos : Pos} {e : Expr} {r : List Expr} {es : Es} (hx : glB sc x = true) (hd : (x == ("__debug__" : Str)) = false) (htp : tp.l = true) (h : cEs f (e :: r) = some es) :
    PE X (.Call (.Name x p) (e :: r) [] pos) (wE (rx X ta mm xc) k (.callZ x es) W) := by
  obtain ⟨hfn, hmm, _⟩ := g.lam htp
  refine ⟨fun pins s σ H Q I q => ?_⟩
  obtain ⟨a, hm, hk, q⟩ := q
  refine wpAny_Call_Name_kw (ld_glob I (g.gl hx) hm ?_ hd)
  obtain ⟨h1, m, ms', rfl, h2⟩ := cEs_ns h
  refine PySem.W.callWith_K (h₀ := X.base) I.ok.mod.kin hk (thn ((pa_of hf h).run pos pins s σ H _ I q) fun us s1 ⟨vs, H1, I1, r1, sp, c, q1⟩ => ⟨I1.kIn, ?_⟩) (starEach_ns h1) (star_any h2)
  refine run_z c (g.room (by cases tp <;> first | rfl | (cases htp))) hfn I1 r1 (q1 (czOf X s1) (czOk I1).k (fun a o e => ?_) fun f fz φ hM j => ?_)
  · obtain ⟨⟨y, hy⟩, _⟩ := czOf_some e
    exact I1.freeC y a hy
  · have hM : mm f fz φ := hM
    rw [hmm] at hM
    exact hM σ (czOf X s1) (czOk I1) j
/-- a name of the module -/
theorem pe_gl {k : Nat} {sc : Scope} {N : List Str} {W : WX} {x : Str} {p : Pos} (g : Gd ta mm xc tp k sc N W X) (hg : glB sc x = true) (hd : (x == ("__debug__" : Str)) = false) : PE X (.Name x p) (fun σ H Q => ∃ v u, X.mg x = some u ∧ RelV v u ∧ Q v H) := by
  refine ⟨fun pins s σ H Q I q => ?_⟩
  obtain ⟨v, u, hv, r, q⟩ := q
  exact (pe_glob (g.gl hg) hv r hd).run pins s σ H Q I q
/-- a lambda's value -/
theorem pe_lamv {k : Nat} {sc : Scope} {N : List Str} {W : WX} {params : Arguments} {body : Expr} {scope : Scope} {pos : Pos} {l : List (Str × Int)} {b : E} (g : Gd ta mm xc .lam k sc N W X) (hl : lparB params = some l) (hlam : lamB N sc scope l = true)
    (hb : ∀ (j : Nat) (A : Around) (outer : List Env) (s : Shared) (H : Hp) (E : XK) (f c' : Addr), Room j (A.deeper (LamX.lamEnv X scope s.heap.objs.size f c')) → PE (LamX.lamCx X A outer s H E scope f c') body (wE (rx X ta mm xc) j b fun cls d _ H' => E cls d H')) :
    PE X (.Lambda params body scope pos) (wE (rx X ta mm xc) k (.lam b) W) := by
  obtain ⟨hfn, hmm, c, P, TB, hcode, hm, hu⟩ := g.lam rfl
  have L : LamSc X.N X.env.scope scope l := by
    rw [g.N, g.sc]
    exact lamB_ok hlam
  refine ⟨fun pins s σ H Q I q => ?_⟩
  obtain ⟨hT, q⟩ := q
  refine (pe_lam (lparB_ok hl) L TB hcode hm hu).run pins s σ H Q I ⟨hT, fun f fz H1 k1 t1 z1 md => q f fz H1 k1 t1 z1 (by obtain ⟨_, _, _, _, _, _, _, _, z⟩ := md; exact z) ?_⟩
  have of_ : ∀ φ, Mof X f fz φ → mm f fz φ := fun φ h => by rw [hmm]; exact h
  exact of_ _ fun σ cz ck j => lamOk_of (t := fun E σ H Q => wE (rx X ta mm xc) j b (fun cls d _ H' => E cls d H') σ H Q) ck md (lparB_ok hl) L I.ok.glob fun A outer s H E f c' hr => hb j A outer s H E f c' hr
/-- THE READING HOLDS: of an expression and of a test that were read over -/
theorem sE_all (ta : List (Addr × Str)) (mm : MT) (xc : XC) (N : List Str) : ∀ n, (∀ (tp : Md) (sc : Scope) (e : Expr) (m : E), cE N n tp sc e = some m → ∀ (k : Nat) (W : WX) (X : Cx), Gd ta mm xc tp k sc N W X → PE X e (wE (rx X ta mm xc) k m W)) ∧
    (∀ (tp : Md) (sc : Scope) (e : Expr) (m : T), cT N n tp sc e = some m → ∀ (k : Nat) (W : WX) (X : Cx), Gd ta mm xc tp k sc N W X → PT X e (wT (rx X ta mm xc) k m W) ∧ ∀ op vs p, e = .BoolOp op vs p → PW X e (wT (rx X ta mm xc) k m W)) := by
  intro n
  induction n with
  | zero => exact ⟨fun _ _ _ _ h => (by unfold cE at h; cases h), fun _ _ _ _ h => (by unfold cT at h; cases h)⟩
  | succ n ih =>
    obtain ⟨ihE, ihT⟩ := ih
    refine ⟨fun tp sc e m h k W X g => ?_, fun tp sc e m h k W X g => ?_⟩
    · have hf : ∀ e m, cE N n tp sc e = some m → PE X e (wE (rx X ta mm xc) k m W) := fun e m h => ihE tp sc e m h k W X g
      have hu := g.u65
      unfold cE at h
      cases e with
      | Name x p =>
        dsimp only at h
        split at h
        · rename_i ho
          obtain ⟨hd, hcd, hn⟩ := okName_d ho
          split at h
          · rename_i hv
            obtain ⟨i, h1, h2⟩ := Option.map_eq_some_iff.mp h
            cases h2
            exact pe_var (by rw [g.N]; exact ixOf_get h1) (g.vis hv) hd hcd
          · split at h
            · rename_i hg
              split at h
              · rename_i hc
                cases h
                refine ⟨fun pins s σ H Q I q => ?_⟩
                obtain ⟨v, u, hv, r, q⟩ := q
                exact (pe_bltn (g.gl hg) (g.blt _ (clsNames_blt _ hc)) hv r hn hd).run pins s σ H Q I q
              · cases h
                refine ⟨fun pins s σ H Q I q => ?_⟩
                obtain ⟨v, u, hv, r, q⟩ := q
                exact (pe_glob (g.gl hg) hv r hd).run pins s σ H Q I q
            · cases h
        · cases h
      | Constant c j p =>
        dsimp only at h
        split at h <;> first | (cases h; first | exact pe_int | exact pe_str | exact pe_bl | exact pe_non) | cases h
      | BinOp a op b p =>
        dsimp only at h
        split at h
        · rename_i x y h1 h2
          cases h
          exact pe_op (o_bin op) (hf _ _ h1) (hf _ _ h2)
        · cases h
      | UnaryOp op a p =>
        dsimp only at h
        split at h
        · obtain ⟨x, h1, h2⟩ := Option.map_eq_some_iff.mp h
          cases h2
          exact pe_un un_neg (hf _ _ h1)
        · obtain ⟨x, h1, h2⟩ := Option.map_eq_some_iff.mp h
          cases h2
          exact pe_notT (hf _ _ h1)
        · cases h
      | BoolOp op vs p =>
        dsimp only at h
        split at h
        · cases h
        · exact pe_one (hf _ _ h)
        · rename_i a b r
          split at h
          · rename_i x y h1 h2
            cases h
            cases op
            · exact pe_andT (hf _ _ h1) (hf _ _ h2)
            · exact pe_orT (hf _ _ h1) (hf _ _ h2)
          · cases h
      | Compare a ops cs p =>
        dsimp only at h
        split at h
        · rename_i op b
          split at h
          · cases h
          · rename_i hm
            split at h
            · rename_i ng x h1 h2
              obtain ⟨m, h3, h4⟩ := Option.map_eq_some_iff.mp h
              cases h4
              obtain ⟨p2, rfl, ho, hg⟩ := glN_eq h2
              have e := inOp_eq h1
              subst e
              exact pe_cmpR ((o_inK ng).or (o_cmp _ hu)) (hf _ _ h3) (pe_gl g hg (okName_d ho).1) (by simpa using hm)
            · split at h
              · rename_i x y h1 h2
                cases h
                exact pe_cmpR (o_cmp op hu) (hf _ _ h1) (hf _ _ h2) (by simpa using hm)
              · cases h
        · rename_i o1 o2 b c
          split at h
          · cases h
          · rename_i hm
            simp only [Bool.or_eq_true, not_or, Bool.not_eq_true] at hm
            split at h
            · rename_i x y z h1 h2 h3
              cases h
              exact pe_chain (o_cmp o1 hu) (o_cmp o2 hu) (hf _ _ h1) (hf _ _ h2) (hf _ _ h3) (chain_m hm.1 hm.2)
            · cases h
        · cases h
      | IfExp t a b p =>
        dsimp only at h
        split at h
        · rename_i x y z h1 h2 h3
          cases h
          exact pe_ifExp (ihT tp sc _ _ h1 k W X g).1 (hf _ _ h2) (hf _ _ h3)
        · cases h
      | Attribute a f p =>
        dsimp only at h
        split at h
        · cases h
        · rename_i hc
          obtain ⟨x, h1, h2⟩ := Option.map_eq_some_iff.mp h
          cases h2
          exact pe_fld (hf _ _ h1) (base_ns (by simpa using hc))
      | Subscript a i p =>
        dsimp only at h
        split at h
        · split at h
          · rename_i x l hh h1 h2 h3
            cases h
            exact pe_slice x_cut (hf _ _ h1) (po_of hf h2) (po_of hf h3)
          · cases h
        · split at h
          · cases h
          · rename_i hs
            split at h
            · rename_i x h1
              obtain ⟨m, h3, h4⟩ := Option.map_eq_some_iff.mp h
              cases h4
              obtain ⟨p2, rfl, ho, hg⟩ := glN_eq h1
              refine PEi (pe_ix (ix_kdict.or (x_sub hu)) (pe_gl g hg (okName_d ho).1) (hf _ _ h3) (plain_ns (by simpa using hs))) fun σ H Q q => ?_
              obtain ⟨y, u, q1, q2, q3⟩ := q
              exact ⟨y, u, q1, q2, q3⟩
            · split at h
              · rename_i x y h1 h2
                cases h
                exact pe_ix (x_sub hu) (hf _ _ h1) (hf _ _ h2) (plain_ns (by simpa using hs))
              · cases h
      | Tuple es j p =>
        dsimp only at h
        split at h
        · rename_i a b p2
          split at h
          · rename_i hn
            split at h
            · rename_i x y h1 h2
              cases h
              exact pe_tup (pa_cons (hf _ _ h1) (StX.pa_star (hf _ _ h2) pa_nil) (starEach_ns hn))
            · cases h
          · cases h
        · obtain ⟨x, h1, h2⟩ := Option.map_eq_some_iff.mp h
          cases h2
          exact pe_tup (pa_of hf h1)
      | List es p =>
        dsimp only at h
        obtain ⟨x, h1, h2⟩ := Option.map_eq_some_iff.mp h
        cases h2
        exact pe_lst (pa_of hf h1)
      | Dict ks vs p =>
        dsimp only at h
        split at h
        · rename_i he
          cases h
          obtain ⟨he1, he2⟩ := Bool.and_eq_true_iff.mp he
          obtain rfl := List.isEmpty_iff.mp he1
          obtain rfl := List.isEmpty_iff.mp he2
          exact PEor pe_dnewK pe_dnewT
        split at h
        · cases h
        · rename_i hc
          simp only [Bool.or_eq_true, not_or, Bool.not_eq_true, Bool.not_eq_false', decide_eq_true_eq, Bool.not_eq_true'] at hc
          obtain ⟨x, h1, h2⟩ := Option.map_eq_some_iff.mp h
          cases h2
          obtain ⟨p1, p2⟩ := pps_of hf (pos := p) h1
          obtain ⟨⟨c1, c2⟩, c3⟩ := hc
          exact pe_disp p1 p2 (by simpa using c2) (by intro z; rw [z] at c1; cases c1) (by simpa using c3)
      | Call f args kws pos =>
        dsimp only at h
        split at h
        · rename_i x p
          split at h
          · rename_i ho
            obtain ⟨hd, hcd, _⟩ := okName_d ho
            split at h
            · rename_i hv
              split at h
              · rename_i hem
                obtain ⟨hem, hcm⟩ := Bool.and_eq_true_iff.mp hem
                obtain ⟨i, h1, h2⟩ := Option.map_eq_some_iff.mp h
                cases h2
                cases args with
                | cons _ _ => cases hem
                | nil =>
                  refine ⟨fun pins s σ H Q I q => ?_⟩
                  obtain ⟨f, G, sp, hs, hG, c, q⟩ := q
                  refine wpAny_Call_Name_kw (thn ((pe_var (pos := p) (i := i) (by rw [g.N]; exact ixOf_get h1) (g.vis hv) hd hcd).run pins s σ H (fun v H1 => v = .ref f ∧ H1 = H) I ⟨_, hs, rfl, rfl⟩) fun u s1 ⟨v, H1, I1, r1, e1, e2⟩ => ?_)
                  subst e1
                  subst e2
                  obtain rfl : u = Value.ref f := r1
                  exact PySem.W.callWith_F0 (c.at_ _ _ _ _ I1.hok hG) (c.run X rfl (g.room hcm) pins σ H1 s1 Q _ I1 hG (passAt g.tk σ) q)
              · cases h
            · split at h
              · rename_i hgl
                split at h
                · rename_i es h1
                  split at h
                  · rename_i b hb
                    split at h
                    · cases h
                    · rename_i hne
                      split at h
                      · rename_i hqu
                        cases h
                        have e := biOf_name hb
                        subst e
                        cases args with
                        | nil => exact absurd rfl hne
                        | cons a r => exact pe_bicall g hf hgl (by rcases Bool.or_eq_true_iff.mp hqu with z | z; exact .inr z; exact .inl z) h1
                      · cases h
                  · split at h
                    · rename_i hz
                      simp only [Bool.and_eq_true] at hz
                      split at h
                      · cases h
                      · rename_i hne
                        cases h
                        cases args with
                        | nil => exact absurd rfl hne
                        | cons a r => exact pe_zcall g hf hgl hd hz.1 h1
                    · split at h
                      · rename_i hcm
                        cases h
                        exact pe_glcall g hcm hf hgl ho h1
                      · cases h
                · cases h
              · cases h
          · cases h
        · rename_i o mth apos
          split at h
          · cases h
          · rename_i hc
            simp only [Bool.or_eq_true, not_or, Bool.not_eq_true, Bool.not_eq_false', decide_eq_true_eq] at hc
            split at h
            · rename_i a es h1 h2
              cases h
              exact pe_ometh g hf (hf _ _ h1) hc.1.1 (by simpa using hc.1.2) (by simpa using hc.2) h2
            · cases h
        · cases h
      | Lambda params body scope pos =>
        dsimp only at h
        split at h
        · rename_i htp
          obtain rfl : tp = .lam := by cases tp <;> first | rfl | (cases htp)
          split at h
          · rename_i l hl
            split at h
            · rename_i hlam
              obtain ⟨b, h1, h2⟩ := Option.map_eq_some_iff.mp h
              cases h2
              exact pe_lamv g hl hlam fun j A outer s H E f c' hr => ihE .no scope body b h1 j _ _ ⟨g.N, g.nd, rfl, fun _ => hr, Zw.Room.u65 hr, fun _ => rfl, takes_of rfl rfl rfl rfl, passes_of rfl, g.blt, fun _ => g.exn rfl, (fun z => by cases z), (fun z => by cases z), (fun z => by cases z)⟩
            · cases h
          · cases h
        · cases h
      | ListComp elt gens scope p =>
        dsimp only at h
        split at h
        · rename_i tg iter ifs asy
          split at h
          · rename_i hc
            simp only [Bool.and_eq_true, decide_eq_true_eq, Bool.not_eq_true'] at hc
            obtain ⟨⟨⟨hasy, hblk⟩, hset⟩, hcm⟩ := hc
            subst hasy
            split at h
            · rename_i it gg tt x h1 h2 h3 h4
              cases h
              have hf0 : ∀ e m, cE N n tp sc e = some m → PE X e (wE (rx X ta mm xc) k m W0) := fun e m h => ihE tp sc e m h k W0 X g.w0
              have hN : X.N = N := g.N
              have ok : BlkOk X.N X.env.scope scope (ownOf N (tgNames tg)) := by
                rw [g.N, g.sc]
                exact blkOk_by hblk
              have one : PE X (.ListComp elt [⟨tg, iter, ifs, 0⟩] scope p) (tLc (fun σ H S => wI (rx X ta mm xc) k it W0 σ H S) (gTg (rx X ta mm xc).K gg) (fun σ H S => wT (rx X ta mm xc) k tt W0 σ H S) (fun σ H S => wE (rx X ta mm xc) k x W0 σ H S) ((ownOf N (tgNames tg)).map (·.2))) := by
                refine pe_lc (g.calm hcm) g.nd (pi_of g.w0 hf0 h1) ok (fun s H C cl fp => ?_) (fun s H C cl fp => ?_) (fun s H C cl fp => ?_) (fold_ns hset)
                · exact pg_tg (tg_blk s H C cl fp) g.nd (g.calm hcm) (by rw [show (X.blk s H scope (compEnvC scope cl C X.env) fp).N = N from g.N]; exact h2)
                · have gb := g.blk hcm scope s H C cl fp
                  split at h3
                  · cases h3
                    exact pts_nil
                  · exact pts_one (ihT _ _ _ _ h3 k W0 _ gb).1
                  · cases h3
                · exact ihE _ _ _ _ h4 k W0 _ (g.blk hcm scope s H C cl fp)
              exact PEor one (pe_lock one)
            · cases h
          · cases h
        · cases h
      | _ => cases h
    · have hf : ∀ e m, cE N n tp sc e = some m → PE X e (wE (rx X ta mm xc) k m W) := fun e m h => ihE tp sc e m h k W X g
      unfold cT at h
      cases e with
      | UnaryOp op a p =>
        refine ⟨?_, fun _ _ _ z => by cases z⟩
        cases op with
        | Not =>
          dsimp only at h
          obtain ⟨x, h1, h2⟩ := Option.map_eq_some_iff.mp h
          cases h2
          exact pt_not (ihT _ _ _ _ h1 k W X g).1
        | _ =>
          dsimp only at h
          obtain ⟨x, h1, h2⟩ := Option.map_eq_some_iff.mp h
          cases h2
          exact pt_truth (hf _ _ h1) fun _ => rfl
      | BoolOp op vs p =>
        have hw : PW X (.BoolOp op vs p) (wT (rx X ta mm xc) k m W) := by
          dsimp only at h
          split at h
          · cases h
          · have q := (ihT _ _ _ _ h k W X g).1
            cases op
            · exact pw_and1 q
            · exact pw_or1 q
          · rename_i a b r
            split at h
            · rename_i x y h1 h2
              cases h
              have q1 := (ihT _ _ _ _ h1 k W X g).1
              have q2 := (ihT _ _ _ _ h2 k W X g).2 _ _ _ rfl
              cases op
              · exact pw_and q1 q2
              · exact pw_or q1 q2
            · cases h
        exact ⟨hw.pt, fun _ _ _ z => hw⟩
      | Compare a ops cs p =>
        refine ⟨?_, fun _ _ _ z => by cases z⟩
        have hu := g.u65
        dsimp only at h
        split at h
        · rename_i op b
          split at h
          · cases h
          · rename_i hm
            split at h
            · rename_i ng x h1 h2
              obtain ⟨m, h3, h4⟩ := Option.map_eq_some_iff.mp h
              cases h4
              obtain ⟨p2, rfl, ho, hg⟩ := glN_eq h2
              have e := inOp_eq h1
              subst e
              exact pt_cmpR ((o_inK ng).or (o_cmp _ hu)) (hf _ _ h3) (pe_gl g hg (okName_d ho).1) (by simpa using hm)
            · split at h
              · rename_i x y h1 h2
                cases h
                exact pt_cmpR (o_cmp op hu) (hf _ _ h1) (hf _ _ h2) (by simpa using hm)
              · cases h
        · rename_i o1 o2 b c
          split at h
          · cases h
          · rename_i hm
            simp only [Bool.or_eq_true, not_or, Bool.not_eq_true] at hm
            split at h
            · rename_i x y z h1 h2 h3
              cases h
              exact pt_chain (o_cmp o1 hu) (o_cmp o2 hu) (hf _ _ h1) (hf _ _ h2) (hf _ _ h3) (chain_m hm.1 hm.2)
            · cases h
        · cases h
      | IfExp t a b p => cases h
      | _ =>
        refine ⟨?_, fun _ _ _ z => by cases z⟩
        dsimp only at h
        obtain ⟨x, h1, h2⟩ := Option.map_eq_some_iff.mp h
        cases h2
        exact pt_truth (hf _ _ h1) fun _ => rfl
end
end Zw

set_option Elab.async false
set_option linter.all false
set_option maxRecDepth 100000
set_option maxHeartbeats 8000000
namespace Zw
open PySem PySem.Spec PyProof.Rows L2
/-! ## statements -/
/-- two names stored from two written values, one behind the other -/
def parB (sc : Scope) (x y : Str) (px py : Pos) (vs : List Expr) : Bool :=
  decide (sc.kind = .function) && decide (sc.names.lookup x = some .local) && decide (sc.names.lookup y = some .local) && decide (px.line = py.line) && !(x == y) && vs.all nsB && !vs.all (foldedForSure 8) && !vs.all (constantsAlone 8)
/-- an unpacking of a written tuple that is one tuple first -/
def unpB (sc : Scope) (ts vs : List Expr) : Bool :=
  !(ts.length == 2 || ts.length == 3) || ts.any (fun | .Name x _ => decide (sc.names.lookup x ≠ some .local) | _ => true) || vs.all (foldedForSure 8)
def cTts (f : Expr → Option E) (g : Expr → Option Nat) : List Expr → Option Tts
  | [] => some .nil
  | .Subscript a i _ :: r => if slB i then none else (match f a, f i, cTts f g r with | some x, some y, some ts => some (.sb x y ts) | _, _, _ => none)
  | e :: r => (match g e, cTts f g r with | some i, some ts => some (.nm i ts) | _, _ => none)
def strB : Expr → Bool | .Constant (.str _) _ _ => true | _ => false
/-- name = [..] on one line -/
def lcB (sc : Scope) (x : Str) (px : Pos) : Expr → Bool
  | .ListComp _ _ scope p => decide (sc.kind = .function) && decide (sc.names.lookup x = some .local) && (px.line == p.line) && !(scope.names.any fun (n, k) => n == x && (k == .local || k == .cell))
  | _ => false
/-- x, *y -/
def cStar (g : Expr → Option Nat) : List Expr → Option (Nat × Nat)
  | [a, .Starred b _] => (match g a, g b with | some i, some j => some (i, j) | _, _ => none)
  | _ => none
theorem cStar_eq {g : Expr → Option Nat} {ts : List Expr} {i j : Nat} (h : cStar g ts = some (i, j)) : ∃ a b p, ts = [a, .Starred b p] ∧ g a = some i ∧ g b = some j := by
  unfold cStar at h
  split at h
  · split at h
    · rename_i h1 h2
      cases h
      exact ⟨_, _, _, rfl, h1, h2⟩
    · cases h
  · cases h
def cRaise (sc : Scope) : Option Expr → Option Expr → Option S
  | some (.Call (.Name x _) [.Constant (.str _) _ _] [] _), none => if okName x && glB sc x then some (.raise x) else none
  | _, _ => none
theorem cRaise_eq {sc : Scope} {e c : Option Expr} {m : S} (h : cRaise sc e c = some m) : ∃ x p z j p2 p3, e = some (.Call (.Name x p) [.Constant (.str z) j p2] [] p3) ∧ c = none ∧ m = .raise x ∧ okName x = true ∧ glB sc x = true := by
  unfold cRaise at h
  split at h
  · split at h
    · rename_i hc
      simp only [Bool.and_eq_true] at hc
      cases h
      exact ⟨_, _, _, _, _, _, rfl, rfl, rfl, hc.1, hc.2⟩
    · cases h
  · cases h
/-- try .. except X as y: .. -/
def cTry (N : List Str) (f g : List Stmt → Option Ss) (tp : Md) (sc : Scope) (body : List Stmt) : List ExceptHandler → List Stmt → List Stmt → Option S
  | [.ExceptHandler (some (.Name x _)) (some y) (b₀ :: suite) _], [], [] => if tp.c && okName x && glB sc x && decide (sc.names.lookup y = some .local) then
      (match ixOf N y, f body, g (b₀ :: suite) with | some i, some a, some b => some (.tryAs x i a b) | _, _, _ => none) else none
  | _, _, _ => none
def cTryO (f g : List Stmt → Option Ss) (tp : Md) (sc : Scope) (body : List Stmt) : List ExceptHandler → List Stmt → List Stmt → Option S
  | [.ExceptHandler (some (.Name x _)) none (b₀ :: suite) _], [], [] => if tp.c && okName x && glB sc x then
      (match f body, g (b₀ :: suite) with | some a, some b => some (.tryOn x a b) | _, _ => none) else none
  | _, _, _ => none
theorem cTryO_eq {f g : List Stmt → Option Ss} {tp : Md} {sc : Scope} {body : List Stmt} {hs : List ExceptHandler} {oe fb : List Stmt} {m : S} (h : cTryO f g tp sc body hs oe fb = some m) :
    ∃ x np b₀ suite p a b, hs = [.ExceptHandler (some (.Name x np)) none (b₀ :: suite) p] ∧ oe = [] ∧ fb = [] ∧ tp.c = true ∧ okName x = true ∧ glB sc x = true ∧ f body = some a ∧ g (b₀ :: suite) = some b ∧ m = .tryOn x a b := by
  unfold cTryO at h
  split at h
  · split at h
    · rename_i hc
      simp only [Bool.and_eq_true, decide_eq_true_eq] at hc
      obtain ⟨⟨hcm, ho⟩, hgl⟩ := hc
      split at h
      · rename_i h2 h3
        cases h
        exact ⟨_, _, _, _, _, _, _, rfl, rfl, rfl, hcm, ho, hgl, h2, h3, rfl⟩
      · cases h
    · cases h
  · cases h
theorem cTry_eq {N : List Str} {f g : List Stmt → Option Ss} {tp : Md} {sc : Scope} {body : List Stmt} {hs : List ExceptHandler} {oe fb : List Stmt} {m : S} (h : cTry N f g tp sc body hs oe fb = some m) :
    ∃ x np y b₀ suite p i a b, hs = [.ExceptHandler (some (.Name x np)) (some y) (b₀ :: suite) p] ∧ oe = [] ∧ fb = [] ∧ tp.c = true ∧ okName x = true ∧ glB sc x = true ∧ sc.names.lookup y = some .local ∧ ixOf N y = some i ∧ f body = some a ∧ g (b₀ :: suite) = some b ∧ m = .tryAs x i a b := by
  unfold cTry at h
  split at h
  · split at h
    · rename_i hc
      simp only [Bool.and_eq_true, decide_eq_true_eq] at hc
      obtain ⟨⟨⟨hcm, ho⟩, hgl⟩, hly⟩ := hc
      split at h
      · rename_i h1 h2 h3
        cases h
        exact ⟨_, _, _, _, _, _, _, _, _, rfl, rfl, rfl, hcm, ho, hgl, hly, h1, h2, h3, rfl⟩
      · cases h
    · cases h
  · cases h
mutual
def cS (N : List Str) : Nat → Md → Scope → Stmt → Option S
  | 0, _, _, _ => none
  | n + 1, tp, sc, st => match st with
    | .Assign [tg] e _ => (match tg with
      | .Name x px => if compB e then (if lcB sc x px e && tp.c then (match ixOf N x, cE N n tp sc e with | some i, some v => some (.set i v) | _, _ => none) else none)
          else (match nmIx N sc true tg, cE N n tp sc e with | some i, some v => some (.set i v) | _, _ => none)
      | .Attribute o f _ => (match cE N n tp sc o, cE N n tp sc e with | some a, some v => some (.setFld a f v) | _, _ => none)
      | .Subscript o i _ => if slB i then none else (match cE N n tp sc o, cE N n tp sc i, cE N n tp sc e with | some a, some b, some v => some (.setSub a b v) | _, _, _ => none)
      | .Tuple ts _ _ => (match e with
        | .Tuple vs _ _ => (match ts, vs with
          | [.Name x px, .Name y py], [a, b] => if parB sc x y px py [a, b] && tp.c then (match ixOf N x, ixOf N y, cE N n tp sc a, cE N n tp sc b with | some i, some j, some v, some w => some (.par i j v w) | _, _, _, _ => none)
              else if unpB sc ts vs && tp.c then (match cTts (cE N n tp sc) (nmIx N sc true) ts, cE N n tp sc e with | some t, some v => some (.setTup t v) | _, _ => none) else none
          | _, _ => if unpB sc ts vs && tp.c then (match cTts (cE N n tp sc) (nmIx N sc true) ts, cE N n tp sc e with | some t, some v => some (.setTup t v) | _, _ => none) else none)
        | _ => if tp.c then (match cStar (nmIx N sc true) ts, cE N n tp sc e with
          | some (i, j), some v => some (.unpS i j v)
          | none, some v => (match cTts (cE N n tp sc) (nmIx N sc true) ts with | some t => some (.setTup t v) | _ => none)
          | _, _ => none) else none)
      | _ => none)
    | .AugAssign tg op e _ => (match tg with
      | .Name _ _ => (match nmIx N sc true tg, cE N n tp sc e with | some i, some v => some (.aug i op v) | _, _ => none)
      | .Attribute o f _ => (match cE N n tp sc o, cE N n tp sc e with | some a, some v => some (.augFld a f op v) | _, _ => none)
      | _ => none)
    | .Return e _ => (match e with | some e => (cE N n tp sc e).map .ret | none => some .retN)
    | .Expr e _ => if strB e then some .doc else if compB e then none else (cE N n tp sc e).map .exp
    | .Pass _ => some .pass
    | .Break _ => some .brk
    | .Continue _ => some .cont
    | .If t a b _ => (match cT N n tp sc t, cSs N n tp sc a, cSs N n tp sc b with | some x, some y, some z => some (.ifs x y z) | _, _, _ => none)
    | .While t a [] _ => (match cT N n tp sc t, cSs N n tp sc a with | some x, some y => some (.whl x y) | _, _ => none)
    | .For tg it a [] _ => if !tp.c then none else (match cTg N sc true tg, cI (cE N n tp sc) sc tg it, cSs N n tp sc a with | some g, some i, some b => some (.fors g i b) | _, _, _ => none)
    | .Try body hs oe fb _ => (match cTry N (cSs N n .no sc) (cSs N n .qt sc) tp sc body hs oe fb with | some m => some m | none => cTryO (cSs N n .no sc) (cSs N n .qt sc) tp sc body hs oe fb)
    | .Raise e c _ => if !tp.c then none else (match cRaise sc e c with | some m => some m | none => some .dead)
    | _ => none
def cSs (N : List Str) : Nat → Md → Scope → List Stmt → Option Ss
  | 0, _, _, _ => none
  | n + 1, tp, sc, sts => match sts with
    | [] => some .nil
    | st :: r => (match cS N n tp sc st, cSs N n tp sc r with | some a, some b => some (.cons a b) | _, _ => none)
end

section
variable {X : Cx} {ta : List (Addr × Str)} {mm : MT} {xc : XC} {tp : Md}
theorem swaps_at {e o : Expr} {f : Str} {p : Pos} {l : Nat} {env : Env} : swapsWith e (some (.Attribute o f p)) l env = pure false := by cases e <;> rfl
theorem swaps_sub {e o i : Expr} {p : Pos} {l : Nat} {env : Env} : swapsWith e (some (.Subscript o i p)) l env = pure false := by cases e <;> rfl
theorem swaps_tup {e : Expr} {es : List Expr} {k : Nat} {p : Pos} {l : Nat} {env : Env} : swapsWith e (some (.Tuple es k p)) l env = pure false := by cases e <;> rfl
theorem sole_tup {e : Expr} {es : List Expr} {k : Nat} {p : Pos} {l : Nat} {env : Env} : swapsWithSole [.Tuple es k p] e l env = pure false := by cases e <;> rfl
theorem sole_sub {e o i : Expr} {p : Pos} {l : Nat} {env : Env} : swapsWithSole [.Subscript o i p] e l env = pure false := by cases e <;> rfl
theorem stores_nm {e : Expr} {x : Str} {p : Pos} {env : Env} : swappedStores [.Name x p] e env = pure none := by cases e <;> rfl
theorem stores_sub {e o i : Expr} {p : Pos} {env : Env} : swappedStores [.Subscript o i p] e env = pure none := by cases e <;> rfl
theorem stores_nt {e : Expr} {ts : List Expr} {k : Nat} {p : Pos} {env : Env} (h : tupB e = false) : swappedStores [.Tuple ts k p] e env = pure none := by
  cases e <;> first | rfl | cases h
theorem fm_short {f : Expr → Option Str} {e : Expr} : ∀ {ts : List Expr}, e ∈ ts → f e = none → ((ts.filterMap f).length != ts.length) = true := by
  have lt : ∀ {ts : List Expr}, e ∈ ts → f e = none → (ts.filterMap f).length < ts.length := by
    intro ts
    induction ts with
    | nil => intro he; cases he
    | cons a r ih =>
      intro he hn
      rcases List.mem_cons.mp he with rfl | hm
      · rw [List.filterMap_cons_none hn]
        exact Nat.lt_succ_of_le (List.length_filterMap_le _ _)
      · have := ih hm hn
        rw [List.filterMap_cons]
        split
        · exact Nat.lt_succ_of_lt this
        · simpa using this
  intro ts he hn
  have := lt he hn
  simp only [bne_iff_ne, ne_eq]
  omega
theorem stores_unp {ts vs : List Expr} {k k2 : Nat} {p p2 : Pos} {env : Env} (h : unpB env.scope ts vs = true) : swappedStores [.Tuple ts k p] (.Tuple vs k2 p2) env = pure none := by
  unfold unpB at h
  simp only [Bool.or_eq_true] at h
  unfold swappedStores
  simp only [pure_bind]
  rcases h with (h | h) | h
  · have e : (!(ts.length == 2 || ts.length == 3) || vs.length != ts.length || env.blockKind != .function) = true := by rw [h]; rfl
    rw [if_pos e] <;> rfl
  · split
    · rfl
    · split
      · rfl
      · obtain ⟨e, he, hb⟩ := List.any_eq_true.mp h
        rw [if_pos]
        simp only [Bool.or_eq_true]
        refine .inl (fm_short he ?_)
        cases e with
        | Name x q =>
          simp only [decide_eq_true_eq] at hb
          have : (env.kindOf x == some .local) = false := by
            show (env.scope.names.lookup x == some NameKind.local) = false
            simpa using hb
          simp [this]
        | _ => rfl
  · split
    · rfl
    · split
      · rfl
      · split
        · rfl
        · first | rfl | (rw [if_pos h] <;> rfl)
theorem stores_par {x y : Str} {px py p p2 : Pos} {a b : Expr} {k k2 : Nat} {env : Env} (h : parB env.scope x y px py [a, b] = true) : swappedStores [.Tuple [.Name x px, .Name y py] k p] (.Tuple [a, b] k2 p2) env = pure (some [x, y]) := by
  unfold parB at h
  simp only [Bool.and_eq_true, decide_eq_true_eq, Bool.not_eq_true'] at h
  obtain ⟨⟨⟨⟨⟨⟨⟨h1, h2⟩, h3⟩, h4⟩, h5⟩, h6⟩, h7⟩, h8⟩ := h
  have hbk : env.blockKind = .function := by unfold Env.blockKind; rw [h1]; rfl
  have kx : env.kindOf x = some .local := h2
  have ky : env.kindOf y = some .local := h3
  have hst : ([a, b].any fun | .Starred .. => true | _ => false) = false := by
    simp only [List.all_cons, List.all_nil, Bool.and_true, Bool.and_eq_true] at h6
    obtain ⟨ha, hb⟩ := h6
    have ns : ∀ e : Expr, nsB e = true → (match e with | .Starred .. => true | _ => false) = false := fun e he => by cases e <;> first | rfl | cases he
    rw [List.any_cons, List.any_cons, List.any_nil, ns a ha, ns b hb] <;> rfl
  have hxy : x ≠ y := by simpa using h5
  have he : [x, y].eraseDups = [x, y] := by
    simp [List.eraseDups_cons, Ne.symm hxy]
  unfold swappedStores
  simp only [pure_bind]
  rw [if_neg (by simp [hbk])]
  split
  · rename_i hh
    exact absurd hh (Bool.eq_false_iff.mp hst)
  simp only [List.filterMap_cons, List.filterMap_nil, List.head?_cons, Option.map_some, Option.getD_some, Expr.pos, kx, ky, h4]
  simp [he, h7, h8]
theorem p_setd (hu : X.A.units + 65 < cLine) : PSet X (fun x y v H Q => ∃ p H4, x = .ref p ∧ DPut H p y v H4 ∧ Q H4) := by
  intro pins s σ H o i v ov iv u Q I ro ri rv q
  obtain ⟨p, H4, rfl, g, q⟩ := q
  obtain rfl : ov = Value.ref p := ro
  exact d_setItem (by omega) I g ri rv fun s' I' => ⟨H4, I', q⟩
theorem PSetor {t t' : TSet} (h : PSet X t) (h' : PSet X t') : PSet X (fun x y v H Q => t x y v H Q ∨ t' x y v H Q) := fun pins s σ H o i v ov iv u Q I ro ri rv q =>
  q.elim (h pins s σ H o i v ov iv u Q I ro ri rv) (h' pins s σ H o i v ov iv u Q I ro ri rv)
theorem p_aug (op : Operator) : PIp X op (rAug op) := by
  intro pins s σ H x y v u Q I rx ry q
  cases op
  case Add =>
    rcases q with q | q
    · exact ip_add pins s σ H x y v u Q I rx ry q
    · exact iop_add_str pins s σ H x y v u Q I rx ry q
  case Sub => exact ip_sub pins s σ H x y v u Q I rx ry q
  all_goals exact q.elim
theorem p_augF (op : Operator) : InOp X op (rAugF op) := by
  cases op
  case Add => exact in_add
  case Sub => exact in_sub
  all_goals
    intro pins s σ H x y v u Q I rx ry q
    exact q.elim
theorem asg_sub {o i : Expr} {pos : Pos} {env : Env} (h : slB i = false) : ∀ v, assign (.Subscript o i pos) env v = (do
      let ov ← holding [v] (eval o env)
      let iv ← holding [v, ov] (eval i env)
      standAt pos
      holding [v, ov, iv] (setItem ov iv v)
      release [v, ov, iv] []) := fun v => by
  cases i <;> first | rfl | cases h
theorem pgs_tts {k : Nat} {sc : Scope} {N : List Str} {W : WX} (g : Gd ta mm xc tp k sc N W X) (T : TgOk X sc true) {f : Expr → Option E} (hf : ∀ e m, f e = some m → PE X e (wE (rx X ta mm xc) k m W)) : ∀ {es : List Expr} {ts : Tts}, cTts f (nmIx X.N sc true) es = some ts →
    PGs X es (fun vs σ H Q => vs.length = ts.len ∧ wTts (rx X ta mm xc) k ts W vs σ H Q) ∧ (assignEach es X.env).length = ts.len ∧ (assignEach es X.env).findIdx? (·.1) = none
  | [], ts, h => by
    unfold cTts at h
    cases h
    refine ⟨⟨fun pins s σ H vs us Q I r q => ?_⟩, rfl, rfl⟩
    obtain ⟨q1, q2⟩ := q
    cases vs with
    | nil => exact pgs_nil.run pins s σ H [] us Q I r ⟨rfl, q2⟩
    | cons _ _ => cases q1
  | e :: r, ts, h => by
    have name : ∀ {e : Expr}, (match nmIx X.N sc true e, cTts f (nmIx X.N sc true) r with | some i, some ts => some (Tts.nm i ts) | _, _ => none) = some ts →
        PGs X (e :: r) (fun vs σ H Q => vs.length = ts.len ∧ wTts (rx X ta mm xc) k ts W vs σ H Q) ∧ (assignEach (e :: r) X.env).length = ts.len ∧ (assignEach (e :: r) X.env).findIdx? (·.1) = none := by
      intro e h
      split at h
      · rename_i i ts' h1 h2
        cases h
        obtain ⟨p1, p2, p3⟩ := pgs_tts g T hf h2
        obtain ⟨x, p, rfl, _, _⟩ := nmIx_get h1
        refine ⟨⟨fun pins s σ H vs us Q I r q => ?_⟩, by show ((assignEach _ X.env).length + 1) = _; rw [p2] <;> rfl, by show ((false, _) :: assignEach _ X.env).findIdx? (·.1) = none; rw [List.findIdx?_cons, p3] <;> rfl⟩
        obtain ⟨q1, q2⟩ := q
        cases vs with
        | nil => cases q1
        | cons v vs => exact (pgs_cons (pg_nm T g.nd h1) p1).run pins s σ H _ us Q I r ⟨v, vs, rfl, by simpa [Tts.len] using q1, q2⟩
      · cases h
    cases e with
    | Subscript a i p =>
      unfold cTts at h
      split at h
      · cases h
      · rename_i hs
        split at h
        · rename_i x y ts' h1 h2 h3
          cases h
          obtain ⟨p1, p2, p3⟩ := pgs_tts g T hf h3
          have hg : PG X (.Subscript a i p) (gSub (fun σ H S => wE (rx X ta mm xc) k x W σ H S) (fun σ H S => wE (rx X ta mm xc) k y W σ H S) (fun x y v H Q => rSetL x y v H Q ∨ ∃ p H4, x = .ref p ∧ DPut H p y v H4 ∧ Q H4)) :=
            pg_sub (hf _ _ h1) (hf _ _ h2) (PSetor set_list (p_setd (g.u65))) (asg_sub (by simpa using hs))
          refine ⟨⟨fun pins s σ H vs us Q I r q => ?_⟩, by show ((assignEach _ X.env).length + 1) = _; rw [p2] <;> rfl, by show ((false, _) :: assignEach _ X.env).findIdx? (·.1) = none; rw [List.findIdx?_cons, p3] <;> rfl⟩
          obtain ⟨q1, q2⟩ := q
          cases vs with
          | nil => cases q1
          | cons v vs =>
            have hl : vs.length = ts'.len := by simpa [Tts.len] using q1
            refine (pgs_cons hg p1).run pins s σ H _ us Q I r ⟨v, vs, rfl, ?_⟩
            have q2 : wE (rx X ta mm xc) k x W σ H fun x H2 => wE (rx X ta mm xc) k y W σ H2 fun y H3 => rSetL x y v H3 (fun H4 => wTts (rx X ta mm xc) k ts' W vs σ H4 Q) ∨ ∃ p H4, x = .ref p ∧ DPut H3 p y v H4 ∧ wTts (rx X ta mm xc) k ts' W vs σ H4 Q := q2
            simp only [hl, true_and]
            exact q2
        · cases h
    | _ =>
      unfold cTts at h
      exact name h
theorem pg_tts {k : Nat} {sc : Scope} {N : List Str} {W : WX} (g : Gd ta mm xc tp k sc N W X) (hcm : X.calm = true) (T : TgOk X sc true) {f : Expr → Option E} (hf : ∀ e m, f e = some m → PE X e (wE (rx X ta mm xc) k m W)) {es : List Expr} {ts : Tts} {j : Nat} {pos : Pos} (h : cTts f (nmIx X.N sc true) es = some ts) :
    PG X (.Tuple es j pos) (fun v σ H Q => ∃ a xs, v = .ref a ∧ (SqT X.K H a xs ∨ SqL X.K H a xs) ∧ xs.length = ts.len ∧ wTts (rx X ta mm xc) k ts W xs σ H Q) := by
  obtain ⟨p1, p2, p3⟩ := pgs_tts g T hf h
  refine ⟨fun pins s σ H v u Q I r q => ?_⟩
  obtain ⟨a, xs, rfl, ht, hl, q⟩ := q
  rcases ht with ht | ht
  · exact (pg_tup (n := ts.len) hcm p1 p2 p3).run pins s σ H _ u Q I r ⟨a, xs, rfl, ht, hl, hl, q⟩
  · exact (pg_lst (n := ts.len) hcm p1 p2 p3).run pins s σ H _ u Q I r ⟨a, xs, rfl, ht, hl, hl, q⟩
/-- x, *y = a list -/
theorem pg_star {sc0 : Scope} {i j : Nat} {ea eb : Expr} {p2 pos : Pos} {k : Nat} (T : TgOk X sc0 true) (nd : X.N.Nodup) (hc : X.calm = true) (h1 : nmIx X.N sc0 true ea = some i) (h2 : nmIx X.N sc0 true eb = some j) :
    PG X (.Tuple [ea, .Starred eb p2] k pos) (fun v σ H Q => ∃ p x rest, v = .ref p ∧ SqL X.K H p (x :: rest) ∧ ∀ q, H q = none → Q ((σ.set i (some x)).set j (some (.ref q))) (upd H q (.lst rest))) := by
  refine ⟨fun pins s σ H v u Q I r q => ?_⟩
  obtain ⟨p, x, rest, rfl, hs, q⟩ := q
  obtain rfl : u = Value.ref p := r
  obtain ⟨its, rv, pl, hz⟩ := I.list hs
  cases rv with
  | @cons _ u0 _ ur rx rr =>
    obtain ⟨xx, xp, rfl, _⟩ := nmIx_get h1
    obtain ⟨yy, yp, rfl, _⟩ := nmIx_get h2
    rw [PyProof.Rows.assign_Tuple]
    refine wpAny_bind (wpAny_standAt ?_)
    unfold unpack
    have e0 : assignEach [Expr.Name xx xp, .Starred (.Name yy yp) p2] X.env = [(false, assign (.Name xx xp) X.env), (true, assign (.Name yy yp) X.env)] := rfl
    rw [e0]
    have lr : rest.length = ur.length := rr.length
    refine wpAny_bind (wpAny_holding (unpack_star (I.ok.hd hc) pl.isList (by rw [← lr]; simpa using hz) fun h' tk gs hgs kp => ?_))
    subst hgs
    have I0 : Inv X pins σ H { s with heap := h', toks := tk } := I.kept (t' := tk) kp
    have hn : H h'.objs.size = none := I0.hok.fresh (Nat.le_refl _)
    have I1 : Inv X pins σ (upd H h'.objs.size (.lst rest)) { s with heap := h'.push ({ cls := .type "list", data := .seq ur.toArray } : Obj), toks := tk } :=
      I0.laid (t' := tk) (fun b o e => Heap.get?_push_of_some _ e) (Nat.le_refl _) ⟨by simpa using Nat.le_of_succ_le hz, ur, 0, rr, Heap.get?_push_size _ rfl⟩
    refine (pgs_cons (pg_nm T nd h1) (pgs_cons (pg_nm T nd h2) pgs_nil)).run pins _ σ _ [x, .ref h'.objs.size] [u0, .ref h'.objs.size] Q I1 (.cons rx (.cons rfl .nil)) ?_
    exact ⟨x, [.ref h'.objs.size], rfl, .ref h'.objs.size, [], rfl, rfl, q _ hn⟩
/-- a def's own frame runs -/
structure DefX (X : Cx) : Prop where
  fn : ∀ x, X.fn x = true
  stk : X.stack = X.env :: X.outer
  frm : X.env.frame = some X.env.locals
theorem isH_suite {X : Cx} {a : Addr} {oe : Obj} {cls : Value} {d : Option Addr} {pn : List (Addr × Obj)} (hz : Zc cls d oe) (hf : ∃ vs, oe.data = .fields vs) : CallR (X.suite a ((a, oe) :: pn)) (.builtin "isinstance") (rIsH X.K (some (a, cls, d))) := by
  intro pins s σ H xs us Q I r q
  obtain ⟨a', C, d', e, hd, hc, q⟩ := q
  cases e
  rcases hd with rfl | ⟨dd, fs, rfl, hd⟩
  · exact call_isE hc hz hf pins s σ H xs us Q I r q
  · obtain ⟨c, cv, b, rfl, hcv, e, q⟩ := q
    cases r with
    | cons rx rr =>
      cases rr with
      | cons rt rr =>
        cases rr
        cases rx
        have ec := hcv _ rt
        subst ec
        obtain ⟨hget, _⟩ := I.pin (a, oe) (List.mem_append.mpr (.inl List.mem_cons_self))
        obtain ⟨vs, hv⟩ := hf
        have hx : ObjOk X.prog X.w H s.heap dd (.xd fs) := I.hok dd _ hd
        obtain ⟨mA, hns, _⟩ := hx
        obtain ⟨od, ho, _⟩ := lookIn_ns hns
        have J : PySem.W.InstAt s.heap a oe C (some od) := ⟨hget, hz.1, by unfold PySem.W.notCls; rw [hv] <;> rfl, by rw [hz.2]; exact ho⟩
        exact PySem.W.kia_one (kitx_d (dd := dd) hc) I.kIn ⟨od, J⟩ e (fun z => nomatch z) fun tk => ⟨.bl b, H, I.kept (t' := tk) fun _ _ z => z, rfl, q⟩
/-- THE READING HOLDS: of statements -/
theorem sS_all (ta : List (Addr × Str)) (mm : MT) (N : List Str) : ∀ n, (∀ (xc : XC) (tp : Md) (sc : Scope) (st : Stmt) (m : S), cS N n tp sc st = some m → ∀ (k : Nat) (W : WX) (X : Cx), Gd ta mm xc tp k sc N W X → DefX X → PS X st (fun D σ H => wS (rx X ta mm xc) k m W D σ H)) ∧
    (∀ (xc : XC) (tp : Md) (sc : Scope) (st : List Stmt) (m : Ss), cSs N n tp sc st = some m → ∀ (k : Nat) (W : WX) (X : Cx), Gd ta mm xc tp k sc N W X → DefX X → PSs X st (fun D σ H => wSs (rx X ta mm xc) k m W D σ H)) := by
  intro n
  induction n with
  | zero => exact ⟨fun _ _ _ _ _ h => (by unfold cS at h; cases h), fun _ _ _ _ _ h => (by unfold cSs at h; cases h)⟩
  | succ n ih =>
    obtain ⟨ihS, ihB⟩ := ih
    refine ⟨fun xc tp sc st m h k W X g dx => ?_, fun xc tp sc st m h k W X g dx => ?_⟩
    all_goals have fn := dx.fn
    · have hf : ∀ e m, cE N n tp sc e = some m → PE X e (wE (rx X ta mm xc) k m W) := fun e m h => (sE_all ta mm xc N n).1 tp sc e m h k W X g
      have hf0 : ∀ e m, cE N n tp sc e = some m → PE X e (wE (rx X ta mm xc) k m W0) := fun e m h => (sE_all ta mm xc N n).1 tp sc e m h k W0 X g.w0
      have ht : ∀ e m, cT N n tp sc e = some m → PT X e (wT (rx X ta mm xc) k m W) := fun e m h => ((sE_all ta mm xc N n).2 tp sc e m h k W X g).1
      have T : TgOk X sc true := fun x => by rw [g.sc]; exact ⟨fun h => h, fun _ h => ⟨h, fn x⟩⟩
      have hN : X.N = N := g.N
      have hu := g.u65
      have nm : ∀ {e : Expr} {i : Nat}, nmIx N sc true e = some i → ∃ x p, e = .Name x p ∧ X.N[i]? = some x ∧ Loc X.env.scope x := fun {e i} h => by
        obtain ⟨x, p, he, h1, h2⟩ := nmIx_get h
        refine ⟨x, p, he, by rw [hN]; exact h1, ?_⟩
        rw [g.sc]
        rcases h2 with h2 | ⟨_, h2⟩
        · exact .inl h2
        · exact .inr h2
      have tts : ∀ {ts : List Expr} {e : Expr} {t : Tts} {v : E} {j : Nat} {p pos : Pos}, tp.c = true → cTts (cE N n tp sc) (nmIx N sc true) ts = some t → cE N n tp sc e = some v → swappedStores [.Tuple ts j p] e X.env = pure none →
          PS X (.Assign [.Tuple ts j p] e pos) (fun D σ H => wS (rx X ta mm xc) k (.setTup t v) W D σ H) := fun {ts e t v j p pos} hcm h1 h2 h3 => by
        exact ps_asg (hf _ _ h2) (pg_tts g (g.calm hcm) T hf (by rw [hN]; exact h1)) sole_tup h3
      unfold cS at h
      cases st with
      | Assign tgs e pos =>
        cases tgs with
        | nil => cases h
        | cons tg r =>
          cases r with
          | cons _ _ => cases h
          | nil =>
            dsimp only at h
            cases tg with
            | Name x px =>
              dsimp only at h
              split at h
              · split at h
                · rename_i hl
                  split at h
                  · rename_i i v h1 h2
                    cases h
                    obtain ⟨hl, _⟩ := Bool.and_eq_true_iff.mp hl
                    unfold lcB at hl
                    cases e with
                    | ListComp elt gens scope p =>
                      simp only [Bool.and_eq_true, decide_eq_true_eq, Bool.not_eq_true'] at hl
                      obtain ⟨⟨⟨l1, l2⟩, l3⟩, l4⟩ := hl
                      have l2' : X.env.scope.names.lookup x = some .local := by rw [g.sc]; exact l2
                      -- as the expression's own case
                      cases n with
                      | zero => unfold cE at h2; cases h2
                      | succ n =>
                        unfold cE at h2
                        rcases gens with _ | ⟨⟨tg, iter, ifs, asy⟩, _ | ⟨_, _⟩⟩
                        · cases h2
                        · dsimp only at h2
                          split at h2
                          · rename_i hc
                            simp only [Bool.and_eq_true, decide_eq_true_eq, Bool.not_eq_true'] at hc
                            obtain ⟨⟨⟨hasy, hblk⟩, hset⟩, hcm⟩ := hc
                            subst hasy
                            split at h2
                            · rename_i it gg tt x' q1 q2 q3 q4
                              cases h2
                              have hf1 : ∀ e m, cE N n tp sc e = some m → PE X e (wE (rx X ta mm xc) k m W0) := fun e m h => (sE_all ta mm xc N n).1 tp sc e m h k W0 X g.w0
                              have ok : BlkOk X.N X.env.scope scope (ownOf N (tgNames tg)) := by
                                rw [g.N, g.sc]
                                exact blkOk_by hblk
                              have one : PS X (.Assign [.Name x px] (.ListComp elt [⟨tg, iter, ifs, 0⟩] scope p) pos) (tAsg (tLc (fun σ H S => wI (rx X ta mm xc) k it W0 σ H S) (gTg (rx X ta mm xc).K gg) (fun σ H S => wT (rx X ta mm xc) k tt W0 σ H S) (fun σ H S => wE (rx X ta mm xc) k x' W0 σ H S) ((ownOf N (tgNames tg)).map (·.2))) (gName i)) := by
                                refine ps_setLc (g.calm hcm) g.nd (by rw [hN]; exact ixOf_get h1) l2' (sw_true (by rw [g.sc]; exact l1) l2' l3 l4) (pi_of g.w0 hf1 q1) ok (fun s H C cl fp => ?_) (fun s H C cl fp => ?_) (fun s H C cl fp => ?_) (fold_ns hset)
                                · exact pg_tg (tg_blk s H C cl fp) g.nd (g.calm hcm) (by rw [show (X.blk s H scope (compEnvC scope cl C X.env) fp).N = N from g.N]; exact q2)
                                · have gb := g.blk hcm scope s H C cl fp
                                  split at q3
                                  · cases q3
                                    exact pts_nil
                                  · exact pts_one ((sE_all ta mm xc N n).2 _ _ _ _ q3 k W0 _ gb).1
                                  · cases q3
                                · exact (sE_all ta mm xc N n).1 _ _ _ _ q4 k W0 _ (g.blk hcm scope s H C cl fp)
                              exact PSor one (ps_lock one)
                            · cases h2
                          · cases h2
                        · cases h2
                    | _ => cases hl
                  · cases h
                · cases h
              · rename_i hc
                split at h
                · rename_i i v h1 h2
                  cases h
                  obtain ⟨x', p', he, hi, hl⟩ := nm h1
                  cases he
                  exact ps_set g.nd hi hl (hf _ _ h2) (swaps_ns (by simpa using hc)) (.inl (fn _))
                · cases h
            | Attribute o f p =>
              dsimp only at h
              split at h
              · rename_i a v h1 h2
                cases h
                exact ps_fld (hf _ _ h1) (hf _ _ h2) swaps_at
              · cases h
            | Subscript o i p =>
              dsimp only at h
              split at h
              · cases h
              · rename_i hs
                split at h
                · rename_i a b v h1 h2 h3
                  cases h
                  refine PSi (ps_asg (hf _ _ h3) (pg_sub (hf _ _ h1) (hf _ _ h2) (PSetor set_list (p_setd hu)) (asg_sub (by simpa using hs))) sole_sub stores_sub) fun D σ H q => ?_
                  exact q
                · cases h
            | Tuple ts j p =>
              dsimp only at h
              split at h
              · rename_i vs k2 p2
                split at h
                · rename_i x px y py a b
                  split at h
                  · rename_i hp
                    split at h
                    · rename_i i j' v w h1 h2 h3 h4
                      cases h
                      obtain ⟨hp, hcm⟩ := Bool.and_eq_true_iff.mp hp
                      have hp' := hp
                      unfold parB at hp
                      simp only [Bool.and_eq_true, decide_eq_true_eq, Bool.not_eq_true', List.all_cons, List.all_nil, Bool.and_true] at hp
                      obtain ⟨⟨⟨⟨⟨⟨⟨c1, c2⟩, c3⟩, c4⟩, c5⟩, c6⟩, c7⟩, c8⟩ := hp
                      have hij : i ≠ j' := by
                        intro e
                        have e1 := ixOf_get h1
                        have e2 := ixOf_get h2
                        rw [e, e2] at e1
                        cases e1
                        simp at c5
                      refine PSi (ps_par (g.calm hcm) g.nd (by rw [hN]; exact ixOf_get h1) (by rw [hN]; exact ixOf_get h2) hij (by rw [g.sc]; exact c2) (by rw [g.sc]; exact c3) (pa_cons (hf _ _ h3) (pa_cons (hf _ _ h4) pa_nil (starEach_ns c6.2)) (starEach_ns c6.1)) (stores_par (by rw [g.sc]; exact hp')) sole_tup) fun D σ H q => ?_
                      refine (show wE (rx X ta mm xc) k v W σ H fun x H1 => wE (rx X ta mm xc) k w W σ H1 fun y H2 => ∃ a b, [x, y] = [a, b] ∧ D.nx ((σ.set i (some a)).set j' (some b)) H2 from ?_)
                      have mono : ∀ x : V, (fun (y : V) (H2 : Hp) => D.nx ((σ.set i (some x)).set j' (some y)) H2) = fun y H2 => ∃ a b, [x, y] = [a, b] ∧ D.nx ((σ.set i (some a)).set j' (some b)) H2 := by
                        intro x
                        funext y H2
                        apply propext
                        constructor
                        · intro z
                          exact ⟨x, y, rfl, z⟩
                        · rintro ⟨a, b, e, z⟩
                          cases e
                          exact z
                      simp only [← mono]
                      exact q
                    · cases h
                  · split at h
                    · rename_i hun
                      split at h
                      · rename_i t v h1 h2
                        cases h
                        exact tts (Bool.and_eq_true_iff.mp hun).2 h1 h2 (stores_unp (by rw [g.sc]; exact (Bool.and_eq_true_iff.mp hun).1))
                      · cases h
                    · cases h
                · split at h
                  · rename_i hun
                    split at h
                    · rename_i t v h1 h2
                      cases h
                      exact tts (Bool.and_eq_true_iff.mp hun).2 h1 h2 (stores_unp (by rw [g.sc]; exact (Bool.and_eq_true_iff.mp hun).1))
                    · cases h
                  · cases h
              · rename_i hne
                split at h
                · rename_i hcm
                  have hnt : tupB e = false := by cases e <;> first | rfl | exact absurd rfl (hne _ _ _)
                  split at h
                  · rename_i i j' v h1 h2
                    cases h
                    obtain ⟨a, b, p2, rfl, g1, g2⟩ := cStar_eq h1
                    exact ps_asg (hf _ _ h2) (pg_star T g.nd (g.calm hcm) (by rw [hN]; exact g1) (by rw [hN]; exact g2)) sole_tup (stores_nt hnt)
                  · rename_i v h1 h2
                    split at h
                    · rename_i t h3
                      cases h
                      exact tts hcm h3 h2 (stores_nt hnt)
                    · cases h
                  · cases h
                · cases h
            | _ => cases h
      | AugAssign tg op e pos =>
        cases tg with
        | Name x px =>
          dsimp only at h
          split at h
          · rename_i i v h1 h2
            cases h
            obtain ⟨x', p', he, hi, hl⟩ := nm h1
            cases he
            exact ps_aug g.nd hi hl (hf _ _ h2) (p_aug op) (.inl (fn _))
          · cases h
        | Attribute o f p =>
          dsimp only at h
          split at h
          · rename_i a v h1 h2
            cases h
            exact ps_fldaug (hf _ _ h1) (hf _ _ h2) (p_augF op)
          · cases h
        | _ => cases h
      | Return e pos =>
        cases e with
        | none =>
          cases h
          exact ps_retN
        | some e =>
          dsimp only at h
          obtain ⟨x, h1, h2⟩ := Option.map_eq_some_iff.mp h
          cases h2
          exact ps_ret (hf _ _ h1)
      | Expr e pos =>
        dsimp only at h
        split at h
        · rename_i hs
          cases h
          unfold strB at hs
          split at hs
          · exact ps_doc
          · cases hs
        · split at h
          · cases h
          · rename_i hc
            obtain ⟨x, h1, h2⟩ := Option.map_eq_some_iff.mp h
            cases h2
            exact ps_expr (hf _ _ h1) (swaps_ns (by simpa using hc))
      | Pass pos =>
        cases h
        exact ps_pass
      | Break pos =>
        cases h
        exact ps_break
      | Continue pos =>
        cases h
        exact ps_continue
      | If t a b pos =>
        dsimp only at h
        split at h
        · rename_i x y z h1 h2 h3
          cases h
          exact ps_if (ht _ _ h1) (ihB _ _ _ _ _ h2 k W X g dx) (ihB _ _ _ _ _ h3 k W X g dx)
        · cases h
      | While t a b pos =>
        cases b with
        | cons _ _ => cases h
        | nil =>
          dsimp only at h
          split at h
          · rename_i x y h1 h2
            cases h
            exact ps_while g.own (ht _ _ h1) (ihB _ _ _ _ _ h2 k W X g dx)
          · cases h
      | For tg it a b pos =>
        cases b with
        | cons _ _ => cases h
        | nil =>
          dsimp only at h
          split at h
          · cases h
          rename_i hcm
          have hcm : tp.c = true := by simpa using hcm
          split at h
          · rename_i gg i b h1 h2 h3
            cases h
            have hset : ∀ x, foldedSetIterable it X.env x = pure x := by
              refine fold_ns ?_
              cases it <;> first | rfl | (unfold cI at h2; simp [setB] at h2)
            have hpg := pg_tg T g.nd (g.calm hcm) (by rw [hN]; exact h1)
            exact PSor (ps_for g.own (g.calm hcm) (pi_of g hf h2) hpg (ihB _ _ _ _ _ h3 k W X g dx) hset) (ps_lock (ps_for g.own (g.calm hcm) (pi_of g.w0 hf0 h2) hpg (ihB _ _ _ _ _ h3 k W0 X g.w0 dx) hset))
          · cases h
      | Try body hs oe fb pos =>
        dsimp only at h
        split at h
        · rename_i m' hh
          cases h
          obtain ⟨x, np, y, b₀, suite, pos', i, a, b, rfl, rfl, rfl, hcm, ho, hgl, hly, h1, h2, h3, rfl⟩ := cTry_eq (N := N) hh
          obtain ⟨hd, _, _⟩ := okName_d ho
          refine ⟨fun pins s σ H D I q => ?_⟩
          obtain ⟨c, hm, q⟩ := q
          refine (ps_try_as (tb := fun W D σ H => wSs (rx X ta mm xc) k a W D σ H) (ts := fun p cls d D σ H => wSs (rx X ta mm (some (p, cls, d))) k b W0 D σ H) dx.stk dx.frm g.nd (by rw [hN]; exact ixOf_get h1) (by rw [← g.sc] at hly; exact hly) ⟨g.gl hgl, hd, hm⟩ g.tk
            (fun W pn xe tk po => ihB xc .no sc body a h2 k W (X.tr pn xe) ⟨g.N, g.nd, g.sc, fun _ => g.room hcm, g.u65, fun _ => g.calm hcm, tk, po, g.blt, fun _ => g.exn hcm, (fun z => by cases z), (fun z => by cases z), (fun z => by cases z)⟩ ⟨fn, dx.stk, dx.frm⟩)
            (fun p oe cls d pn hz hf => ihB (some (p, cls, d)) .qt sc _ b h3 k W0 (X.suite p ((p, oe) :: pn)) ⟨g.N, g.nd, g.sc, (fun z => by cases z), g.u65, (fun z => by cases z), takes0, PassesOwn.never, g.blt, (fun z => by cases z), (fun _ z => by cases z), fun _ => isH_suite hz hf, (fun z => by cases z)⟩ ⟨fn, dx.stk, dx.frm⟩)).run pins s σ H D I q
        · obtain ⟨x, np, b₀, suite, pos', a, b, rfl, rfl, rfl, hcm, ho, hgl, h2, h3, rfl⟩ := cTryO_eq h
          obtain ⟨hd, _, _⟩ := okName_d ho
          refine ⟨fun pins s σ H D I q => ?_⟩
          obtain ⟨c, hm, q⟩ := q
          refine (ps_try_only (tb := fun W D σ H => wSs (rx X ta mm xc) k a W D σ H) (ts := fun p cls d D σ H => wSs (rx X ta mm (some (p, cls, d))) k b W0 D σ H) dx.stk dx.frm ⟨g.gl hgl, hd, hm⟩ g.tk
            (fun W pn xe tk po => ihB xc .no sc body a h2 k W (X.tr pn xe) ⟨g.N, g.nd, g.sc, fun _ => g.room hcm, g.u65, fun _ => g.calm hcm, tk, po, g.blt, fun _ => g.exn hcm, (fun z => by cases z), (fun z => by cases z), (fun z => by cases z)⟩ ⟨fn, dx.stk, dx.frm⟩)
            (fun p oe cls d pn hz hf => ihB (some (p, cls, d)) .qt sc _ b h3 k W0 (X.suite p ((p, oe) :: pn)) ⟨g.N, g.nd, g.sc, (fun z => by cases z), g.u65, (fun z => by cases z), takes0, PassesOwn.never, g.blt, (fun z => by cases z), (fun _ z => by cases z), fun _ => isH_suite hz hf, (fun z => by cases z)⟩ ⟨fn, dx.stk, dx.frm⟩)).run pins s σ H D I q
      | Raise e c pos =>
        dsimp only at h
        split at h
        · cases h
        rename_i hcm
        have hcm : tp.c = true := by simpa using hcm
        split at h
        · rename_i m' h1
          cases h
          obtain ⟨x, p, z, j, p2, p3, rfl, rfl, rfl, ho, hgl⟩ := cRaise_eq h1
          obtain ⟨hd, _, _⟩ := okName_d ho
          refine ⟨fun pins s σ H D I q => ?_⟩
          rcases q with ⟨C, hm, hx, q⟩ | ⟨C, nm, hm, hx, hk, q⟩
          rotate_left
          · exact (ps_err (g.calm hcm) g.tk hx ((g.room hcm).mono hk) (g.gl hgl) hm hd).run pins s σ H D I q
          exact (ps_raise (g.calm hcm) g.tk (pmk_own PySem.F.excBase_ValueError hx.ex hm hx.kp (raises_own hx.sb hx.ty) (g.gl hgl) hd)).run pins s σ H D I q
        · cases h
          exact ⟨fun pins s σ H D I q => False.elim q⟩
      | _ => cases h
    · unfold cSs at h
      cases st with
      | nil =>
        cases h
        exact pss_nil
      | cons a r =>
        dsimp only at h
        split at h
        · rename_i x y h1 h2
          cases h
          exact pss_cons (ihS _ _ _ _ _ h1 k W X g dx) (ihB _ _ _ _ _ h2 k W X g dx)
        · cases h
end
end Zw

set_option Elab.async false
set_option linter.all false
set_option maxRecDepth 100000
set_option maxHeartbeats 8000000
namespace Zw
open PySem PySem.Spec PyProof.Rows L2
/-! ## defs -/
def scopeB (N ps : List Str) (sc : Scope) : Bool :=
  decide (sc.kind = .function) && !sc.isCoroutine && !sc.isGenerator && decide N.Nodup && decide (N.take ps.length = ps) &&
  (ps.all fun x => decide (sc.names.lookup x = some .local) || decide (sc.names.lookup x = some .cell)) && (sc.names.all fun y => decide (y.2 ≠ .free))
theorem scopeB_ok {N ps : List Str} {sc : Scope} (h : scopeB N ps sc = true) : FnScope N ps sc := by
  unfold scopeB at h
  simp only [Bool.and_eq_true, decide_eq_true_eq, Bool.not_eq_true', List.all_eq_true, Bool.or_eq_true] at h
  obtain ⟨⟨⟨⟨⟨⟨h1, h2⟩, h3⟩, h4⟩, h5⟩, h6⟩, h7⟩ := h
  exact ⟨h1, h2, h3, h4, h5, h6, h7⟩
section
variable {R : Rt}
/-- a def's promise, by the reading of its small text -/
theorem fn_wp {x qual : Str} {st : Stmt} {f : Addr} {fd : FuncData} {N ps : List Str} {k : Nat} {sp : Sp} {body : Ss} (F : Fun R.K x qual st f fd) (S : scopeB N ps (defScope st) = true) (hc : cSs N 60 .no (defScope st) (defBody st) = some body)
    (blt : ∀ x ∈ bltNames, R.mg x = none) (len : ∀ vs H Q E, sp vs H Q E → vs.length = ps.length)
    (h : ∀ vs H Q E, sp vs H Q E → wSs ⟨R, [], fun _ _ _ => False, none⟩ k body (fun cls d _ H' => E cls d H') { nx := fun _ H' => Q .non H', rt := Q } (L2.start N vs) H) : FnOk R.P R.w R.K R.mg R.base (L2.CX R.P R.w) (k + 1) f fd ps sp := by
  have S' := scopeB_ok S
  refine F.okX S' len fun cdv A outer s H vs Q E hr hsp => ?_
  refine ⟨_, (sS_all [] (fun _ _ _ => False) N 60).2 none _ _ _ _ hc k (fun cls d _ H' => E cls d H') _ ⟨rfl, S'.nd, rfl, fun _ => hr, Zw.Room.u65 hr, fun _ => rfl, takes_of rfl rfl rfl rfl, passes_of rfl, blt, fun _ => rfl, (fun z => by cases z), (fun z => by cases z), (fun z => by cases z)⟩ ⟨fun _ => rfl, rfl, rfl⟩, ?_⟩
  exact h vs H Q E hsp
/-- a def that makes lambdas: its code object at c, the table of its code objects at P -/
structure FunL (K : PySem.W.Frag) (x qual : Str) (st : Stmt) (f c : Addr) (fd : FuncData) : Prop where
  ex : ∃ (oc : Value) (od : Option Addr) (kV doc pm : Value) (an : Option Addr) (ct : Value) (osl : Array (Option Value)),
    fd = PySem.W.fnOf x qual (defArgs st) (defBody st) (defScope st) .none kV doc pm an (.ref c) ct ∧ K.lookup f = some ⟨oc, od, .func fd, osl⟩ ∧ PySem.W.codeIn K (.ref c) qual = true
/-- what a lambda is called within a def -/
def lamQ (qual : Str) : Str := (envOfC qual { kind := .function, names := [], isGenerator := false, isCoroutine := false } 0 0 .none).qual ++ "<lambda>"
theorem fn_wpL {x qual : Str} {st : Stmt} {f c P : Addr} {fd : FuncData} {N ps : List Str} {k : Nat} {sp : Sp} {body : Ss} {ta : List (Addr × Str)} (F : FunL R.K x qual st f c fd) (S : scopeB N ps (defScope st) = true) (hc : cSs N 60 .lam (defScope st) (defBody st) = some body)
    (blt : ∀ x ∈ bltNames, R.mg x = none) (TB : LamX.TabB R.base R.mg c P) (hm : (P, lamQ qual) ∈ ta) (hu : ∀ p ∈ ta, p.1 = P → p.2 = lamQ qual) (len : ∀ vs H Q E, sp vs H Q E → vs.length = ps.length)
    (h : ∀ M vs H Q E, sp vs H Q E → wSs ⟨R, ta, M, none⟩ k body (fun cls d _ H' => E cls d H') { nx := fun _ H' => Q .non H', rt := Q } (L2.start N vs) H) : FnOk R.P R.w R.K R.mg R.base (L2.CX R.P R.w) (k + 1) f fd ps sp := by
  have S' := scopeB_ok S
  obtain ⟨oc, od, kV, doc, pm, an, ct, osl, rfl, lk, hcd⟩ := F.ex
  refine fn_of lk hcd S' len fun A outer s H vs Q E hr hsp => ?_
  refine ⟨_, (sS_all ta (Mof _) N 60).2 none _ _ _ _ hc k (fun cls d _ H' => E cls d H') _ ⟨rfl, S'.nd, rfl, fun _ => hr, Zw.Room.u65 hr, fun _ => rfl, takes_of rfl rfl rfl rfl, passes_of rfl, blt, fun _ => rfl, (fun z => by cases z), (fun z => by cases z), fun _ => ⟨fun _ => rfl, rfl, c, P, TB, rfl, hm, hu⟩⟩ ⟨fun _ => rfl, rfl, rfl⟩, ?_⟩
  exact h _ vs H Q E hsp
theorem CallOk.fn {j k : Nat} {f : Addr} {fd : FuncData} {ps : List Str} {sp : Sp} (F : FnOk R.P R.w R.K R.mg R.base (L2.CX R.P R.w) j f fd ps sp) (hb : Binds R.K fd ps []) (h : j ≤ k) : CallOk R k f sp :=
  ⟨fun X e hr pins σ H s Q E us vs I hx r q => by
    subst e
    exact run_fnS (E := fun _ => E) (F.mono h) hr hb hx I r q⟩
theorem CallOk.mono {j k : Nat} {f : Addr} {sp : Sp} (c : CallOk R j f sp) (h : j ≤ k) : CallOk R k f sp := ⟨fun X e hr => c.run X e (hr.mono h)⟩
/-- a class's call: a new instance, then __init__ -/
def spMake (C : Addr) (sp : Sp) : Sp := fun vs H Q E => ∀ x dx, H x = none → H dx = none → dx ≠ x → sp (.ref x :: vs) (upd (upd H dx (.own x)) x (.ins C dx [])) (fun v H2 => v = .non ∧ Q (.ref x) H2) E
theorem CallOk.make {j k : Nat} {f C : Addr} {fd : FuncData} {ps : List Str} {sp : Sp} (M : Mk R.K C f) (F : FnOk R.P R.w R.K R.mg R.base (L2.CX R.P R.w) j f fd ps sp) (hb : Binds R.K fd ps []) (h : j + 1 ≤ k) : CallOk R k C (spMake C sp) :=
  ⟨fun X e hr pins σ H s Q E us vs I hx r q => by
    subst e
    have hr' := hr.mono h
    have hq := q (s.heap.objs.size + 1) s.heap.objs.size (I.hok.fresh (Nat.le_succ _)) (I.hok.fresh (Nat.le_refl _)) (Nat.ne_of_lt (Nat.lt_succ_self _))
    have I2 := Inv.made (C := C) I
    have r2 : Vals (V.ref (s.heap.objs.size + 1) :: vs) (Value.ref (s.heap.objs.size + 1) :: us) := .cons rfl r
    have hl : (Value.ref (s.heap.objs.size + 1) :: us).length = ps.length := by
      have e := r2.length
      rw [F.len _ _ _ _ hq] at e
      exact e.symm
    have b := hb _ (Value.ref (s.heap.objs.size + 1) :: us) I2.kIn (by rw [List.append_nil]; exact hl)
    rw [List.append_nil] at b
    refine wpAny_call (make_map (f := f) I.kIn M.makes M.init (beq_iff_eq.mp M.fn) (codeAny_mono (F.run _ X.stack _ _ ⟨Value.ref (s.heap.objs.size + 1) :: us, []⟩ (Value.ref (s.heap.objs.size + 1) :: us) _ _ E (hr'.make C us [])
      (I2.env0.make C us []) b r2 hq) fun r s' hq' => ?_))
    cases r with
    | error e => exact hx pins _ _ e s' I2 hq'
    | ok fl =>
      cases fl with
      | ret u =>
        obtain ⟨v, H', I3, rv, ev, q3⟩ := I2.after hq'
        subst ev
        exact ⟨rv, ⟨V.ref (s.heap.objs.size + 1), H', I3, rfl, q3⟩⟩
      | next => exact False.elim hq'
      | brk => exact False.elim hq'
      | cont => exact False.elim hq'⟩
end
end Zw

set_option Elab.async false
set_option linter.all false
set_option maxRecDepth 100000
set_option maxHeartbeats 4000000
namespace Zw
open PySem PySem.Spec PyProof.Rows L2
/-! ## one step at a time -/
def NewO (H : Hp) (o : HO) (Q : VK) : Prop := ∀ p, H p = none → Q (.ref p) (upd H p o)
def PutA (K : PySem.W.Frag) (x : V) (f : Str) (y : V) (H : Hp) (N : Hp → Prop) : Prop := ∃ p C dx fs, x = .ref p ∧ H p = some (.ins C dx fs) ∧ Cls K C ∧ NoAttr K C f ∧ fs.length < 1000 ∧ N (upd H p (.ins C dx (putF f y fs)))
section
variable {R : Rx} {k : Nat} {W : WX} {D : Ends} {σ : L2.St} {H : Hp} {Q : VK} {r : Ss}
theorem q_nil (h : D.nx σ H) : wSs R k .nil W D σ H := h
theorem q_set {i : Nat} {e : E} (h : wE R k e W σ H fun v H1 => wSs R k r W D (σ.set i (some v)) H1) : wSs R k (.cons (.set i e) r) W D σ H := h
theorem q_par {i j : Nat} {a b : E} (h : wE R k a W σ H fun v H1 => wE R k b W σ H1 fun w H2 => wSs R k r W D ((σ.set i (some v)).set j (some w)) H2) : wSs R k (.cons (.par i j a b) r) W D σ H := h
theorem q_exp {e : E} (h : wE R k e W σ H fun _ H1 => wSs R k r W D σ H1) : wSs R k (.cons (.exp e) r) W D σ H := h
theorem q_doc (h : wSs R k r W D σ H) : wSs R k (.cons .doc r) W D σ H := h
theorem q_pass (h : wSs R k r W D σ H) : wSs R k (.cons .pass r) W D σ H := h
theorem q_ret {e : E} (h : wE R k e W σ H D.rt) : wSs R k (.cons (.ret e) r) W D σ H := h
theorem q_retN (h : D.rt .non H) : wSs R k (.cons .retN r) W D σ H := h
theorem q_brk (h : D.bk σ H) : wSs R k (.cons .brk r) W D σ H := h
theorem q_cont (h : D.ct σ H) : wSs R k (.cons .cont r) W D σ H := h
theorem q_if {t : T} {a b : Ss} (h : wT R k t W σ H fun c H1 => if c = true then wSs R k a W { D with nx := fun σ' H' => wSs R k r W D σ' H' } σ H1 else wSs R k b W { D with nx := fun σ' H' => wSs R k r W D σ' H' } σ H1) : wSs R k (.cons (.ifs t a b) r) W D σ H := h
theorem q_try {x : Str} {i : Nat} {a b : Ss} {c : Value} (hm : R.mg x = some c ∨ (R.mg x = none ∧ bootBuiltins x = some c ∧ x ≠ "__name__")) (h : wSs R k a (wAs R.K c i (fun p cls d D' σ' H' => wSs { R.toRt with T := R.T, M := R.M, xc := some (p, cls, d) } k b W0 D' σ' H') W { D with nx := fun σ' H' => wSs R k r W D σ' H' }) { D with nx := fun σ' H' => wSs R k r W D σ' H' } σ H) : wSs R k (.cons (.tryAs x i a b) r) W D σ H := ⟨c, hm, h⟩
theorem q_raise {x : Str} {C : Addr} (hx : R.mg x = some (.ref C)) (hc : ExcOk R.K C) (h : W (.ref C) none σ H) : wSs R k (.cons (.raise x) r) W D σ H := .inl ⟨C, hx, hc, h⟩
/-- a refusal that knows its kind -/
theorem q_raiseE {x : Str} {C : Addr} {nm : Str} {l : List HP} (hx : R.mg x = some (.ref C)) (hc : ErrOk R.P R.w R.K R.mg R.base C nm) (h2 : 2 ≤ k) (y : SL l H) (h : ∀ d H', SL (pt d (.xd [("kind", .str nm)]) :: l) H' → W (.ref C) (some d) σ H') : wSs R k (.cons (.raise x) r) W D σ H := .inr ⟨C, nm, hx, hc, h2, fun d n => h d _ (y.new _ n)⟩
theorem q_aug {i : Nat} {op : Operator} {e : E} {x : V} (hx : σ[i]? = some (some x)) (h : wE R k e W σ H fun y H1 => rAug op x y H1 fun z H2 => wSs R k r W D (σ.set i (some z)) H2) : wSs R k (.cons (.aug i op e) r) W D σ H := ⟨x, hx, h⟩
theorem q_setFld {a e : E} {f : Str} (h : wE R k e W σ H fun y H1 => wE R k a W σ H1 fun x H2 => PutA R.K x f y H2 fun H3 => wSs R k r W D σ H3) : wSs R k (.cons (.setFld a f e) r) W D σ H := h
theorem q_setSub {a i e : E} (h : wE R k e W σ H fun v H1 => wE R k a W σ H1 fun x H2 => wE R k i W σ H2 fun y H3 => rSetL x y v H3 (fun H4 => wSs R k r W D σ H4) ∨ ∃ p H4, x = .ref p ∧ DPut H3 p y v H4 ∧ wSs R k r W D σ H4) : wSs R k (.cons (.setSub a i e) r) W D σ H := h
theorem e_var {i : Nat} {v : V} (hv : σ[i]? = some (some v)) (h : Q v H) : wE R k (.var i) W σ H Q := ⟨v, hv, h⟩
theorem e_glob {x : Str} {v : V} {u : Value} (hx : R.mg x = some u) (hr : RelV v u) (h : Q v H) : wE R k (.glob x) W σ H Q := ⟨v, u, hx, hr, h⟩
theorem e_bltn {x : Str} {v : V} {u : Value} (hx : bootBuiltins x = some u) (hr : RelV v u) (h : Q v H) : wE R k (.bltn x) W σ H Q := ⟨v, u, hx, hr, h⟩
theorem e_int {i : Int} (h : Q (.int i) H) : wE R k (.int i) W σ H Q := h
theorem e_str {z : Str} (h : Q (.str z) H) : wE R k (.str z) W σ H Q := h
theorem e_bl {b : Bool} (h : Q (.bl b) H) : wE R k (.bl b) W σ H Q := h
theorem e_non (h : Q .non H) : wE R k .non W σ H Q := h
theorem e_bin {op : Operator} {a b : E} (h : wE R k a W σ H fun x H1 => wE R k b W σ H1 fun y H2 => rBin R.K op x y H2 Q) : wE R k (.bin op a b) W σ H Q := h
theorem e_neg {a : E} (h : wE R k a W σ H fun x H1 => ∃ i, x = .int i ∧ Q (.int (-i)) H1) : wE R k (.neg a) W σ H Q := h
theorem e_nt {a : E} (h : wE R k a W σ H fun x H1 => ∃ c, TruV R.K x H1 c ∧ Q (.bl (!c)) H1) : wE R k (.nt a) W σ H Q := h
theorem e_cmp {op : CmpOp} {a b : E} (h : wE R k a W σ H fun x H1 => wE R k b W σ H1 fun y H2 => rCmp R.K op x y H2 Q) : wE R k (.cmp op a b) W σ H Q := h
theorem e_chain {o1 o2 : CmpOp} {a b c : E} (h : wE R k a W σ H fun x H1 => wE R k b W σ H1 fun y H2 => rCmp R.K o1 x y H2 fun z H3 => ∃ c1, z = .bl c1 ∧
      if c1 = true then wE R k c W σ H3 fun v H4 => rCmp R.K o2 y v H4 Q else Q (.bl false) H3) : wE R k (.chain o1 o2 a b c) W σ H Q := h
theorem e_and {a b : E} (h : wE R k a W σ H fun x H1 => ∃ c, TruV R.K x H1 c ∧ if c = true then wE R k b W σ H1 Q else Q x H1) : wE R k (.and2 a b) W σ H Q := h
theorem e_or {a b : E} (h : wE R k a W σ H fun x H1 => ∃ c, TruV R.K x H1 c ∧ if c = true then Q x H1 else wE R k b W σ H1 Q) : wE R k (.or2 a b) W σ H Q := h
theorem e_ife {t : T} {a b : E} (h : wT R k t W σ H fun c H1 => if c = true then wE R k a W σ H1 Q else wE R k b W σ H1 Q) : wE R k (.ife t a b) W σ H Q := h
theorem e_fld {a : E} {f : Str} (h : wE R k a W σ H fun x H1 => rFld R.K x f H1 Q) : wE R k (.fld a f) W σ H Q := h
theorem e_sub {a i : E} (h : wE R k a W σ H fun x H1 => wE R k i W σ H1 fun y H2 => rSubs R.K x y H2 Q) : wE R k (.sub a i) W σ H Q := h
theorem e_tup {es : Es} (h : wEs R k es W σ H fun xs H1 => xs.length ≤ sizeLine ∧ NewO H1 (.tup xs) Q) : wE R k (.tup es) W σ H Q := h
theorem e_lst {es : Es} (h : wEs R k es W σ H fun xs H1 => xs.length ≤ sizeLine ∧ NewO H1 (.lst xs) Q) : wE R k (.lst es) W σ H Q := h
theorem e_bi {b : Bi} {es : Es} (h : wEs R k es W σ H fun vs H1 => rBi R.K R.xc b vs H1 Q) : wE R k (.callB b es) W σ H Q := h
theorem e_call {x : Str} {es : Es} {f : Addr} (h1 : R.mg x = some (.ref f)) (h2 : PySem.W.keepIn R.K (.ref f) = true) (h : wEs R k es W σ H fun vs H1 => ∃ sp, CallOk R.toRt k f sp ∧ sp vs H1 Q (WE W σ)) : wE R k (.call x es) W σ H Q := ⟨f, h1, h2, h⟩
theorem x_sp {R : Rt} {f : Addr} {sp : Sp} {vs : List V} {X : XK} (c : CallOk R k f sp) (h : sp vs H Q X) : ∃ sp, CallOk R k f sp ∧ sp vs H Q X := ⟨sp, c, h⟩
theorem e_meth {a : E} {m : Str} {ms : List Mt} {es : Es} (h : wE R k a W σ H fun x H1 =>
      (R.xc = none ∧ ∃ p C dx fs g, x = .ref p ∧ H1 p = some (.ins C dx fs) ∧ Cls R.K C ∧ Meth R.K C m g ∧ fs.lookup m = none ∧
        wEs R k es W σ H1 fun vs H2 => ∃ sp, CallOk R.toRt k g sp ∧ sp (x :: vs) H2 Q (WE W σ)) ∨
      (∃ t, t ∈ ms ∧ tyV R.K (mtT t) x H1 ∧ wEs R k es W σ H1 fun vs H2 => rMt R.K t x vs H2 Q)) : wE R k (.meth a m ms es) W σ H Q := h
theorem x_own {m : Str} {es : Es} {p C dx g : Addr} {fs : List (Str × V)} {P : Prop} (hx : R.xc = none) (e : H p = some (.ins C dx fs)) (c : Cls R.K C) (me : Meth R.K C m g) (nl : fs.lookup m = none) (h : wEs R k es W σ H fun vs H2 => ∃ sp, CallOk R.toRt k g sp ∧ sp (.ref p :: vs) H2 Q (WE W σ)) :
    (R.xc = none ∧ ∃ p' C dx fs g, V.ref p = .ref p' ∧ H p' = some (.ins C dx fs) ∧ Cls R.K C ∧ Meth R.K C m g ∧ fs.lookup m = none ∧ wEs R k es W σ H fun vs H2 => ∃ sp, CallOk R.toRt k g sp ∧ sp (.ref p :: vs) H2 Q (WE W σ)) ∨ P := .inl ⟨hx, p, C, dx, fs, g, rfl, e, c, me, nl, h⟩
theorem x_bm {x : V} {ms : List Mt} {es : Es} {P : Prop} (t : Mt) (m : t ∈ ms) (ty : tyV R.K (mtT t) x H) (h : wEs R k es W σ H fun vs H2 => rMt R.K t x vs H2 Q) : P ∨ (∃ t, t ∈ ms ∧ tyV R.K (mtT t) x H ∧ wEs R k es W σ H fun vs H2 => rMt R.K t x vs H2 Q) := .inr ⟨t, m, ty, h⟩
theorem es_nil {Q : List V → Hp → Prop} (h : Q [] H) : wEs R k .nil W σ H Q := h
theorem es_cons {e : E} {es : Es} {Q : List V → Hp → Prop} (h : wE R k e W σ H fun x H1 => wEs R k es W σ H1 fun xs H2 => Q (x :: xs) H2) : wEs R k (.cons e es) W σ H Q := h
theorem t_yes {Q : Bool → Hp → Prop} (h : Q true H) : wT R k .yes W σ H Q := h
theorem t_nt {a : T} {Q : Bool → Hp → Prop} (h : wT R k a W σ H fun c H1 => Q (!c) H1) : wT R k (.nt a) W σ H Q := h
theorem t_and {a b : T} {Q : Bool → Hp → Prop} (h : wT R k a W σ H fun c H1 => if c = true then wT R k b W σ H1 Q else Q false H1) : wT R k (.and2 a b) W σ H Q := h
theorem t_or {a b : T} {Q : Bool → Hp → Prop} (h : wT R k a W σ H fun c H1 => if c = true then Q true H1 else wT R k b W σ H1 Q) : wT R k (.or2 a b) W σ H Q := h
theorem t_cmp {e : E} {Q : Bool → Hp → Prop} (h : wE R k e W σ H fun x H1 => ∃ c, x = .bl c ∧ Q c H1) : wT R k (.cmp e) W σ H Q := h
theorem t_val {e : E} {Q : Bool → Hp → Prop} (h : wE R k e W σ H fun x H1 => ∃ c, TruV R.K x H1 c ∧ Q c H1) : wT R k (.val e) W σ H Q := h
end
/-! ## what ends a step -/
section
variable {K : PySem.W.Frag} {xc : XC} {σ : L2.St} {H : Hp} {Q : VK} {l l' : List HP}
theorem Rp.mem {α : Type _} {a b : α} {l l' : List α} (r : Rp a b l l') : a ∈ l := by
  induction r with
  | hd => exact .head _
  | tl r ih => exact .tail _ ih
theorem x_ite {c : Bool} {A B : Prop} (a : c = true → A) (b : c = false → B) : if c = true then A else B := by
  cases c
  · rw [if_neg (by simp)]; exact b rfl
  · rw [if_pos rfl]; exact a rfl
theorem x_itt {A B : Prop} (a : A) : if true = true then A else B := by rw [if_pos rfl]; exact a
theorem x_iff {A B : Prop} (b : B) : if false = true then A else B := by rw [if_neg Bool.false_ne_true]; exact b
theorem x_dt {c : Bool} {A B : Prop} (h : c = true) (a : A) : if c = true then A else B := by rw [if_pos h]; exact a
theorem x_df {c : Bool} {A B : Prop} (h : c = false) (b : B) : if c = true then A else B := by rw [h, if_neg Bool.false_ne_true]; exact b
theorem x_bl {b : Bool} {P : Bool → Prop} (h : P b) : ∃ c, V.bl b = V.bl c ∧ P c := ⟨b, rfl, h⟩
theorem x_in {i : Int} {P : Int → Prop} (h : P i) : ∃ j, V.int i = V.int j ∧ P j := ⟨i, rfl, h⟩
theorem tr_bl {b : Bool} {P : Bool → Prop} (h : P b) : ∃ c, TruV K (.bl b) H c ∧ P c := ⟨b, rfl, h⟩
theorem tr_int {i : Int} {P : Bool → Prop} (h : P (i != 0)) : ∃ c, TruV K (.int i) H c ∧ P c := ⟨_, rfl, h⟩
theorem tr_non {P : Bool → Prop} (h : P false) : ∃ c, TruV K .non H c ∧ P c := ⟨_, rfl, h⟩
theorem tr_lst {p : Addr} {xs : List V} {P : Bool → Prop} (e : SqL K H p xs) (h : P (!xs.isEmpty)) : ∃ c, TruV K (.ref p) H c ∧ P c := ⟨_, .inl ⟨xs, e, rfl⟩, h⟩
theorem tr_tup {p : Addr} {xs : List V} {P : Bool → Prop} (e : SqT K H p xs) (h : P (!xs.isEmpty)) : ∃ c, TruV K (.ref p) H c ∧ P c := ⟨_, .inr (.inl ⟨xs, e, rfl⟩), h⟩
theorem sq_l {p : Addr} {xs : List V} (e : H p = some (.lst xs)) : SqL K H p xs := .inl (.inl e)
theorem sq_f {p : Addr} {o : Obj} {xs : List V} (e : H p = some (.frz o (.lst xs))) : SqL K H p xs := .inl (.inr ⟨o, e⟩)
theorem st_t {p : Addr} {xs : List V} (e : H p = some (.tup xs)) : SqT K H p xs := .inl (.inl e)
theorem b_add {i j : Int} (h : Q (.int (i + j)) H) : rBin K .Add (.int i) (.int j) H Q := .inl ⟨i, j, rfl, rfl, h⟩
theorem b_sub {i j : Int} (h : Q (.int (i - j)) H) : rBin K .Sub (.int i) (.int j) H Q := ⟨i, j, rfl, rfl, h⟩
theorem b_mul {i j : Int} (c : CMul i j) (h : Q (.int (i * j)) H) : rBin K .Mult (.int i) (.int j) H Q := .inl ⟨i, j, rfl, rfl, c, h⟩
theorem b_div {i j : Int} (c : CDivW i j) (h : Q (.int (i / j)) H) : rBin K .FloorDiv (.int i) (.int j) H Q := ⟨i, j, rfl, rfl, c, h⟩
theorem b_mod {i j : Int} (c : 0 < j) (h : Q (.int (i % j)) H) : rBin K .Mod (.int i) (.int j) H Q := ⟨i, j, rfl, rfl, c, h⟩
/-- xs + ys, two lists -/
theorem b_cat {p q : Addr} {xs ys : List V} (ep : H p = some (.lst xs)) (eq : H q = some (.lst ys)) (b : xs.length + ys.length ≤ sizeLine) (h : NewO H (.lst (xs ++ ys)) Q) : rBin K .Add (.ref p) (.ref q) H Q := .inr (.inr (.inl ⟨p, q, xs, ys, rfl, rfl, ep, eq, b, h⟩))
theorem c_lt {i j : Int} (h : Q (.bl (decide (i < j))) H) : rCmp K .Lt (.int i) (.int j) H Q := ⟨i, j, rfl, rfl, h⟩
theorem c_le {i j : Int} (h : Q (.bl (decide (i ≤ j))) H) : rCmp K .LtE (.int i) (.int j) H Q := ⟨i, j, rfl, rfl, h⟩
theorem c_gt {i j : Int} (h : Q (.bl (decide (j < i))) H) : rCmp K .Gt (.int i) (.int j) H Q := ⟨i, j, rfl, rfl, h⟩
theorem c_ge {i j : Int} (h : Q (.bl (decide (j ≤ i))) H) : rCmp K .GtE (.int i) (.int j) H Q := ⟨i, j, rfl, rfl, h⟩
theorem c_is {x : V} (h : Q (.bl (decide (x = .non))) H) : rCmp K .Is x .non H Q := ⟨rfl, h⟩
theorem c_isnt {x : V} (h : Q (.bl (!decide (x = .non))) H) : rCmp K .IsNot x .non H Q := ⟨rfl, h⟩
theorem c_eq {x y : V} (s : scal x y = true) (h : Q (.bl (decide (x = y))) H) : rCmp K .Eq x y H Q := .inl ⟨s, h⟩
theorem c_ne {x y : V} (s : scal x y = true) (h : Q (.bl (!decide (x = y))) H) : rCmp K .NotEq x y H Q := .inl ⟨s, h⟩
theorem c_eqI {i j : Int} (h : Q (.bl (decide (i = j))) H) : rCmp K .Eq (.int i) (.int j) H Q := .inl ⟨rfl, by rw [show decide (V.int i = V.int j) = decide (i = j) by rw [decide_eq_decide]; exact ⟨fun h => by cases h; rfl, fun h => by rw [h]⟩]; exact h⟩
theorem c_neI {i j : Int} (h : Q (.bl (!decide (i = j))) H) : rCmp K .NotEq (.int i) (.int j) H Q := .inl ⟨rfl, by rw [show decide (V.int i = V.int j) = decide (i = j) by rw [decide_eq_decide]; exact ⟨fun h => by cases h; rfl, fun h => by rw [h]⟩]; exact h⟩
theorem c_eqB {i j : Bool} (h : Q (.bl (decide (i = j))) H) : rCmp K .Eq (.bl i) (.bl j) H Q := .inl ⟨rfl, by rw [show decide (V.bl i = V.bl j) = decide (i = j) by rw [decide_eq_decide]; exact ⟨fun h => by cases h; rfl, fun h => by rw [h]⟩]; exact h⟩
theorem c_neB {i j : Bool} (h : Q (.bl (!decide (i = j))) H) : rCmp K .NotEq (.bl i) (.bl j) H Q := .inl ⟨rfl, by rw [show decide (V.bl i = V.bl j) = decide (i = j) by rw [decide_eq_decide]; exact ⟨fun h => by cases h; rfl, fun h => by rw [h]⟩]; exact h⟩
theorem c_eqS {i j : Str} (h : Q (.bl (decide (i = j))) H) : rCmp K .Eq (.str i) (.str j) H Q := .inl ⟨rfl, by rw [show decide (V.str i = V.str j) = decide (i = j) by rw [decide_eq_decide]; exact ⟨fun h => by cases h; rfl, fun h => by rw [h]⟩]; exact h⟩
theorem c_eqD {x y : V} {d e : PyData} (hd : Dp K H x d) (he : Dp K H y e) (sd : SeqAt.shaped d = true) (se : SeqAt.shaped e = true) (h : Q (.bl (PyData.eqv d e)) H) : rCmp K .Eq x y H Q := .inr (.inl ⟨d, e, hd, he, sd, se, h⟩)
theorem ixN_nat {n i : Nat} (h : i < n) : ixN n (i : Int) = some i := by
  unfold ixN
  rw [if_pos (Int.natCast_nonneg i), if_pos (by omega)]
  rfl
theorem ixN_last {n : Nat} (h : 0 < n) : ixN n (-1) = some (n - 1) := by
  unfold ixN
  rw [if_neg (by omega), if_pos (by omega)]
  congr 1
  omega
theorem s_lst {p : Addr} {xs : List V} {i : Nat} {v : V} (e : SqL K H p xs) (g : xs[i]? = some v) (h : Q v H) : rSubs K (.ref p) (.int (i : Nat)) H Q :=
  .inl (.inl ⟨p, xs, i, v, rfl, rfl, e, by unfold atI; rw [ixN_nat (List.getElem?_eq_some_iff.mp g).1]; exact g, h⟩)
theorem s_lstN {p : Addr} {xs : List V} {v : V} (e : SqL K H p xs) (g : xs[xs.length - 1]? = some v) (h : Q v H) : rSubs K (.ref p) (.int (-1)) H Q :=
  .inl (.inl ⟨p, xs, -1, v, rfl, rfl, e, by unfold atI; rw [ixN_last (by have := (List.getElem?_eq_some_iff.mp g).1; omega)]; exact g, h⟩)
theorem s_tup {p : Addr} {xs : List V} {i : Nat} {v : V} (e : SqT K H p xs) (g : xs[i]? = some v) (h : Q v H) : rSubs K (.ref p) (.int (i : Nat)) H Q :=
  .inl (.inr (.inl ⟨p, xs, i, v, rfl, rfl, e, by unfold atI; rw [ixN_nat (List.getElem?_eq_some_iff.mp g).1]; exact g, h⟩))
theorem s_dct {p : Addr} {kvs : List (Key × V)} {z : Str} {v : V} (e : Rd H p (.dK kvs)) (g : valV kvs (.inr z) = some v) (h : Q v H) : rSubs K (.ref p) (.str z) H Q := .inr ⟨p, v, rfl, .inl ⟨kvs, .inr z, e, rfl, g.symm⟩, h⟩
theorem f_ins {p C dx : Addr} {fs : List (Str × V)} {f : Str} {v : V} (e : H p = some (.ins C dx fs)) (c : Cls K C) (n : NoAttr K C f) (g : fs.lookup f = some v) (h : Q v H) : rFld K (.ref p) f H Q := ⟨p, C, dx, fs, v, rfl, e, c, n, g, h⟩
theorem i_len {x : V} {n : Nat} (e : LenV K x H n) (h : Q (.int n) H) : rBi K xc .len [x] H Q := ⟨x, n, rfl, e, h⟩
theorem len_l {p : Addr} {xs : List V} (e : SqL K H p xs) : LenV K (.ref p) H xs.length := .inl ⟨xs, e, rfl⟩
theorem len_t {p : Addr} {xs : List V} (e : SqT K H p xs) : LenV K (.ref p) H xs.length := .inr ⟨xs, e, rfl⟩
theorem i_isi {x c : V} {t u : Value} {b : Bool} (hc : ClsV c u) (ht : TyX K H x t) (g : PySem.W.kitOne K t u = some b) (h : Q (.bl b) H) : rBi K xc .isinstance [x, c] H Q := .inl (.inl ⟨x, c, t, u, b, rfl, hc, ht, g, h⟩)
theorem i_isT {x : V} {tp : Addr} {cs : List V} {t : Value} {us : List Value} {b : Bool} (e : H tp = some (.tup cs)) (hc : Paired ClsV cs us) (ht : TyX K H x t) (g : PySem.W.kitAny K t us = some b) (h : Q (.bl b) H) : rBi K xc .isinstance [x, .ref tp] H Q := .inl (.inr ⟨x, tp, cs, t, us, b, rfl, e, hc, ht, g, h⟩)
theorem i_isE {a C : Addr} {d : Option Addr} {c : V} {cv : Value} {b : Bool} (hd : d = none ∨ ∃ dd fs, d = some dd ∧ H dd = some (.xd fs)) (ec : ExcC K C) (hc : ∀ u, RelV c u → u = cv) (g : PySem.W.kitOne K (.ref C) cv = some b) (h : Q (.bl b) H) : rBi K (some (a, .ref C, d)) .isinstance [.ref a, c] H Q := .inr ⟨a, C, d, rfl, hd, ec, c, cv, b, rfl, hc, g, h⟩
theorem i_intB {b : Bool} (h : Q (.int (if b then 1 else 0)) H) : rBi K xc .int [.bl b] H Q := .inl (.inr ⟨b, rfl, h⟩)
theorem i_list {p : Addr} {xs : List V} (e : SqL K H p xs) (h : NewO H (.lst xs) Q) : rBi K xc .list [.ref p] H Q := ⟨p, xs, rfl, .inl e, h⟩
section
variable {p : Addr} {xs : List V} {v : V}
theorem s_at {i : Nat} (x : SL l H) (m : pt p (.lst xs) ∈ l) (g : xs[i]? = some v) (h : Q v H) : rSubs K (.ref p) (.int (i : Nat)) H Q := s_lst (sq_l (SL.get m x)) g h
theorem s_0 (x : SL l H) (m : pt p (.lst xs) ∈ l) (g : xs[0]? = some v) (h : Q v H) : rSubs K (.ref p) (.int 0) H Q := s_lst (i := 0) (sq_l (SL.get m x)) g h
theorem s_1 (x : SL l H) (m : pt p (.lst xs) ∈ l) (g : xs[1]? = some v) (h : Q v H) : rSubs K (.ref p) (.int 1) H Q := s_lst (i := 1) (sq_l (SL.get m x)) g h
theorem s_2 (x : SL l H) (m : pt p (.lst xs) ∈ l) (g : xs[2]? = some v) (h : Q v H) : rSubs K (.ref p) (.int 2) H Q := s_lst (i := 2) (sq_l (SL.get m x)) g h
theorem s_m1 (x : SL l H) (m : pt p (.lst xs) ∈ l) (g : xs[xs.length - 1]? = some v) (h : Q v H) : rSubs K (.ref p) (.int (-1)) H Q := s_lstN (sq_l (SL.get m x)) g h
theorem s_z {kvs : List (Key × V)} {z : Str} (x : SL l H) (m : pt p (.dK kvs) ∈ l) (g : valV kvs (.inr z) = some v) (h : Q v H) : rSubs K (.ref p) (.str z) H Q := s_dct (.inl (SL.get m x)) g h
theorem n_lst (x : SL l H) (b : xs.length ≤ sizeLine) (h : ∀ p H', SL (pt p (.lst xs) :: l) H' → Q (.ref p) H') : xs.length ≤ sizeLine ∧ NewO H (.lst xs) Q := ⟨b, fun p n => h p _ (x.new _ n)⟩
theorem n_tup (x : SL l H) (b : xs.length ≤ sizeLine) (h : ∀ p H', SL (pt p (.tup xs) :: l) H' → Q (.ref p) H') : xs.length ≤ sizeLine ∧ NewO H (.tup xs) Q := ⟨b, fun p n => h p _ (x.new _ n)⟩
theorem n_o {o : HO} (x : SL l H) (h : ∀ p H', SL (pt p o :: l) H' → Q (.ref p) H') : NewO H o Q := fun p n => h p _ (x.new _ n)
theorem len_at (x : SL l H) (m : pt p (.lst xs) ∈ l) (h : Q (.int xs.length) H) : rBi K xc .len [.ref p] H Q := ⟨.ref p, xs.length, rfl, .inl ⟨xs, sq_l (SL.get m x), rfl⟩, h⟩
theorem fl_at {C dx : Addr} {fs : List (Str × V)} {f : Str} (x : SL l H) (m : pt p (.ins C dx fs) ∈ l) (c : Cls K C) (n : NoAttr K C f) (g : fs.lookup f = some v) (h : Q v H) : rFld K (.ref p) f H Q := ⟨p, C, dx, fs, v, rfl, SL.get m x, c, n, g, h⟩
end
theorem m_app {p : Addr} {xs : List V} {y : V} (x : SL l H) (r : Rp (pt p (.lst xs)) (pt p (.lst (xs ++ [y]))) l l') (b : xs.length < sizeLine) (h : ∀ H', SL l' H' → Q .non H') : rMt K .append (.ref p) [y] H Q :=
  ⟨p, xs, y, rfl, rfl, (SL.get r.mem x), b, h _ (x.wr r rfl)⟩
theorem m_pop {p : Addr} {xs : List V} {y : V} (x : SL l H) (r : Rp (pt p (.lst xs)) (pt p (.lst xs.dropLast)) l l') (g : xs[xs.length - 1]? = some y) (h : ∀ H', SL l' H' → Q y H') : rMt K .pop (.ref p) [] H Q :=
  ⟨p, xs, y, rfl, rfl, (SL.get r.mem x), g, h _ (x.wr r rfl)⟩
theorem m_pop0 {p : Addr} {xs : List V} {y : V} (x : SL l H) (r : Rp (pt p (.lst (y :: xs))) (pt p (.lst xs)) l l') (h : ∀ H', SL l' H' → Q y H') : rMt K .popAt (.ref p) [.int 0] H Q :=
  ⟨p, y :: xs, 0, 0, y, rfl, rfl, (SL.get r.mem x), by decide, by decide, by simp [seqIndex?], rfl, h _ (x.wr r rfl)⟩
theorem m_clear {p : Addr} {xs : List V} (x : SL l H) (r : Rp (pt p (.lst xs)) (pt p (.lst [])) l l') (h : ∀ H', SL l' H' → Q .non H') : rMt K .clear (.ref p) [] H Q := ⟨p, xs, rfl, rfl, (SL.get r.mem x), h _ (x.wr r rfl)⟩
theorem ty_l {p : Addr} {xs : List V} (e : SqL K H p xs) : tyV K "list" (.ref p) H := .inl ⟨rfl, xs, e⟩
/-- xs[i] = v -/
theorem p_lst {p : Addr} {xs : List V} {i : Nat} {v : V} {N : Hp → Prop} {P : Prop} (x : SL l H) (r : Rp (pt p (.lst xs)) (pt p (.lst (xs.set i v))) l l') (b : i < xs.length) (h : ∀ H', SL l' H' → N H') : rSetL (.ref p) (.int (i : Nat)) v H N ∨ P :=
  .inl ⟨p, xs, i, i, rfl, rfl, (SL.get r.mem x), ixN_nat b, h _ (x.wr r rfl)⟩
theorem p_0 {p : Addr} {xs : List V} {v : V} {N : Hp → Prop} {P : Prop} (x : SL l H) (r : Rp (pt p (.lst xs)) (pt p (.lst (xs.set 0 v))) l l') (b : 0 < xs.length) (h : ∀ H', SL l' H' → N H') : rSetL (.ref p) (.int 0) v H N ∨ P := p_lst (i := 0) x r b h
theorem p_1 {p : Addr} {xs : List V} {v : V} {N : Hp → Prop} {P : Prop} (x : SL l H) (r : Rp (pt p (.lst xs)) (pt p (.lst (xs.set 1 v))) l l') (b : 1 < xs.length) (h : ∀ H', SL l' H' → N H') : rSetL (.ref p) (.int 1) v H N ∨ P := p_lst (i := 1) x r b h
/-- d['z'] = v -/
theorem p_dct {p : Addr} {kvs : List (Key × V)} {z : Str} {v : V} {N : Hp → Prop} {P : Prop} (x : SL l H) (r : Rp (pt p (.dK kvs)) (pt p (.dK (putK kvs (.inr z) v))) l l') (b : kvs.length < sizeLine) (h : ∀ H', SL l' H' → N H') : P ∨ ∃ q H4, V.ref p = .ref q ∧ DPut H q (.str z) v H4 ∧ N H4 :=
  .inr ⟨p, _, rfl, DPut.k (k := .inr z) (SL.get r.mem x) b, h _ (x.wr r rfl)⟩
/-- o.f = v -/
theorem p_fld {p C dx : Addr} {fs : List (Str × V)} {f : Str} {v : V} {N : Hp → Prop} (x : SL l H) (c : Cls K C) (n : NoAttr K C f) (b : fs.length < 1000) (r : Rp (pt p (.ins C dx fs)) (pt p (.ins C dx (putF f v fs))) l l') (h : ∀ H', SL l' H' → N H') :
    PutA K (.ref p) f v H N := ⟨p, C, dx, fs, rfl, (SL.get r.mem x), c, n, b, h _ (x.wr r rfl)⟩
end
/-! ## loops -/
section
variable {R : Rx} {k : Nat} {W : WX} {D : Ends} {σ : L2.St} {H : Hp} {Q : VK} {r : Ss}
theorem q_for {i : Nat} {it : I} {a : Ss} (h : wI R k it W σ H fun J H1 => ∃ V : Nat → Nat → L2.St → Hp → Prop, (∃ m, V 0 m σ H1) ∧ ∀ j m σ H, V j m σ H →
  (J.stop j H ∧ wSs R k r W D σ H) ∨ (J.go j H ∧ ∃ N : L2.St → Hp → Prop, (∀ σ' H', N σ' H' → ∃ m', m' < m ∧ V (j + 1) m' σ' H') ∧ ∀ x H', J.yld j H x H' → wSs R k a W { D with nx := N, ct := N, bk := fun σ' H' => wSs R k r W D σ' H' } (σ.set i (some x)) H')) : wSs R k (.cons (.fors (.nm i) it a) r) W D σ H := .inl h
theorem i_seq {e : E} {S : It → Hp → Prop} (h : wE R k e W σ H fun x H1 => (∃ a, x = .ref a ∧ (∃ xs, SqL R.K H1 a xs) ∧ S (Itl R.K a) H1) ∨ (∃ a, x = .ref a ∧ (∃ xs, SqT R.K H1 a xs) ∧ S (Itt R.K a) H1) ∨
      (∃ d o kvs, x = .ref d ∧ H1 d = some (.frz o (.dK kvs)) ∧ S (Itk d o kvs) H1) ∨ (∃ z, x = .str z ∧ S (Its z) H1)) : wI R k (.seq e) W σ H S := h
theorem i_rng {e : E} {S : It → Hp → Prop} (h : wE R k e W σ H fun x H1 => ∃ j : Int, x = .int j ∧ -(2 ^ 62) ≤ j ∧ j < 2 ^ 62 ∧ S (Itr 0 j.toNat) H1) : wI R k (.rng1 e) W σ H S := h
/-- over a list that stays as it is; inv: what holds ahead of turn j -/
theorem l_lst {i : Nat} {a : Ss} {p : Addr} {xs : List V} {P : Prop} (inv : Nat → L2.St → Hp → Prop) (e : SqL R.K H p xs) (i0 : inv 0 σ H) (sq : ∀ j σ H, inv j σ H → SqL R.K H p xs)
    (st : ∀ j x σ H, xs[j]? = some x → inv j σ H → wSs R k a W { D with nx := inv (j + 1), ct := inv (j + 1), bk := fun σ' H' => wSs R k r W D σ' H' } (σ.set i (some x)) H) (en : ∀ σ H, inv xs.length σ H → wSs R k r W D σ H) :
    (∃ q, V.ref p = .ref q ∧ (∃ xs, SqL R.K H q xs) ∧ ∃ V : Nat → Nat → L2.St → Hp → Prop, (∃ m, V 0 m σ H) ∧ ∀ j m σ H, V j m σ H →
  ((Itl R.K q).stop j H ∧ wSs R k r W D σ H) ∨ ((Itl R.K q).go j H ∧ ∃ N : L2.St → Hp → Prop, (∀ σ' H', N σ' H' → ∃ m', m' < m ∧ V (j + 1) m' σ' H') ∧ ∀ x H', (Itl R.K q).yld j H x H' → wSs R k a W { D with nx := N, ct := N, bk := fun σ' H' => wSs R k r W D σ' H' } (σ.set i (some x)) H')) ∨ P := by
  refine .inl ⟨p, rfl, ⟨xs, e⟩, fun j m σ H => j + m = xs.length ∧ inv j σ H, ⟨xs.length, by omega, i0⟩, fun j m σ H ⟨hm, hi⟩ => ?_⟩
  have s1 := sq j σ H hi
  by_cases hj : j < xs.length
  · refine .inr ⟨⟨xs, xs[j], s1, List.getElem?_eq_getElem hj⟩, inv (j + 1), fun σ' H' h' => ⟨m - 1, by omega, by omega, h'⟩, fun x H' hy => ?_⟩
    obtain ⟨rfl, hx⟩ := hy
    exact st j x σ _ (hx xs s1) hi
  · have : j = xs.length := by omega
    subst this
    exact .inl ⟨⟨xs, s1, Nat.le_refl _⟩, en σ H hi⟩
/-- over range(n) -/
theorem l_rng {i : Nat} {a : Ss} {n : Nat} (inv : Nat → L2.St → Hp → Prop) (b : n < 2 ^ 62) (i0 : inv 0 σ H)
    (st : ∀ j σ H, j < n → inv j σ H → wSs R k a W { D with nx := inv (j + 1), ct := inv (j + 1), bk := fun σ' H' => wSs R k r W D σ' H' } (σ.set i (some (.int (j : Nat)))) H) (en : ∀ σ H, inv n σ H → wSs R k r W D σ H) :
    ∃ j : Int, V.int (n : Nat) = .int j ∧ -(2 ^ 62) ≤ j ∧ j < 2 ^ 62 ∧ ∃ V : Nat → Nat → L2.St → Hp → Prop, (∃ m, V 0 m σ H) ∧ ∀ t m σ H, V t m σ H →
  ((Itr 0 j.toNat).stop t H ∧ wSs R k r W D σ H) ∨ ((Itr 0 j.toNat).go t H ∧ ∃ N : L2.St → Hp → Prop, (∀ σ' H', N σ' H' → ∃ m', m' < m ∧ V (t + 1) m' σ' H') ∧ ∀ x H', (Itr 0 j.toNat).yld t H x H' → wSs R k a W { D with nx := N, ct := N, bk := fun σ' H' => wSs R k r W D σ' H' } (σ.set i (some x)) H') := by
  refine ⟨n, rfl, by omega, by omega, fun j m σ H => j + m = n ∧ inv j σ H, ⟨n, by omega, i0⟩, fun j m σ H ⟨hm, hi⟩ => ?_⟩
  have en' : ((n : Int)).toNat = n := by omega
  rw [en']
  by_cases hj : j < n
  · refine .inr ⟨hj, inv (j + 1), fun σ' H' h' => ⟨m - 1, by omega, by omega, h'⟩, fun x H' hy => ?_⟩
    obtain ⟨rfl, hx⟩ := hy
    subst hx
    have : (0 : Int) + (j : Int) = (j : Int) := by omega
    rw [this]
    exact st j σ _ hj hi
  · have : j = n := by omega
    subst this
    exact .inl ⟨Nat.le_refl _, en σ H hi⟩
end
end Zw

set_option Elab.async false
set_option linter.all false
set_option maxRecDepth 100000
set_option maxHeartbeats 4000000
namespace Zw
open PySem PySem.Spec PyProof.Rows L2
/-! ## the helpers that the laws share -/
def N_begun : List Str := ["_law_script", "_law_stirred", "_law_cell"]
def b_begun : Ss := (.cons (.set 1 (.int 0))
  (.cons (.fors (.nm 2) (.seq (.var 0))
  (.cons (.set 1 (.bin .Mod (.bin .Add (.bin .Add (.bin .Mult (.var 1) (.int 48271)) (.bin .Mult (.var 2) (.int 69621))) (.int 11)) (.int 2147483647)))
  .nil))
  (.cons (.ret (.lst (.cons (.callB .list (.cons (.var 0) .nil)) (.cons (.bin .Mult (.var 1) (.callB .int (.cons (.cmp .Gt (.callB .len (.cons (.var 0) .nil)) (.int 2)) .nil))) .nil))))
  .nil)))
def N_take : List Str := ["_law_box", "_law_many", "_law_number"]
def b_take : Ss := (.cons (.ifs (.cmp (.cmp .Eq (.sub (.var 0) (.int 0)) (.lst .nil)))
  (.cons (.setSub (.var 0) (.int 1) (.bin .Mod (.bin .Mult (.sub (.var 0) (.int 1)) (.int 48271)) (.int 2147483647)))
  (.cons (.ret (.bin .Mod (.bin .FloorDiv (.sub (.var 0) (.int 1)) (.int 7)) (.var 1)))
  .nil))
  .nil)
  (.cons (.set 2 (.sub (.sub (.var 0) (.int 0)) (.int 0)))
  (.cons (.setSub (.sub (.var 0) (.int 0)) (.int 0) (.bin .FloorDiv (.var 2) (.var 1)))
  (.cons (.ifs (.or2 (.cmp (.cmp .Eq (.sub (.sub (.var 0) (.int 0)) (.int 0)) (.int 0))) (.cmp (.cmp .Eq (.sub (.sub (.var 0) (.int 0)) (.int 0)) (.neg (.int 1)))))
  (.cons (.exp (.meth (.sub (.var 0) (.int 0)) "pop" [.pop, .popAt, .dpop1, .dpop2] (.cons (.int 0) .nil)))
  .nil)
  .nil)
  (.cons (.ret (.bin .Mod (.var 2) (.var 1)))
  .nil)))))
def N_alike : List Str := ["_law_found", "_law_due", "_law_k"]
def b_alike : Ss := (.cons (.ifs (.cmp (.cmp .Is (.var 1) .non))
  (.cons (.ret (.cmp .Is (.var 0) .non))
  .nil)
  .nil)
  (.cons (.ifs (.val (.callB .isinstance (.cons (.var 1) (.cons (.bltn "bool") .nil))))
  (.cons (.ret (.and2 (.callB .isinstance (.cons (.var 0) (.cons (.bltn "bool") .nil))) (.cmp .Eq (.var 0) (.var 1))))
  .nil)
  .nil)
  (.cons (.ifs (.val (.callB .isinstance (.cons (.var 1) (.cons (.bltn "int") .nil))))
  (.cons (.ret (.and2 (.callB .isinstance (.cons (.var 0) (.cons (.bltn "int") .nil))) (.and2 (.nt (.callB .isinstance (.cons (.var 0) (.cons (.bltn "bool") .nil)))) (.cmp .Eq (.var 0) (.var 1)))))
  .nil)
  .nil)
  (.cons (.ifs (.val (.callB .isinstance (.cons (.var 1) (.cons (.bltn "str") .nil))))
  (.cons (.ret (.and2 (.callB .isinstance (.cons (.var 0) (.cons (.bltn "str") .nil))) (.cmp .Eq (.var 0) (.var 1))))
  .nil)
  .nil)
  (.cons (.ifs (.or2 (.cmp (.cmp .NotEq (.callB .isinstance (.cons (.var 1) (.cons (.bltn "tuple") .nil))) (.callB .isinstance (.cons (.var 0) (.cons (.bltn "tuple") .nil))))) (.cmp (.cmp .NotEq (.callB .isinstance (.cons (.var 1) (.cons (.bltn "list") .nil))) (.callB .isinstance (.cons (.var 0) (.cons (.bltn "list") .nil))))))
  (.cons (.ret (.bl false))
  .nil)
  .nil)
  (.cons (.ifs (.cmp (.cmp .NotEq (.callB .len (.cons (.var 0) .nil)) (.callB .len (.cons (.var 1) .nil))))
  (.cons (.ret (.bl false))
  .nil)
  .nil)
  (.cons (.fors (.nm 2) (.rng1 (.callB .len (.cons (.var 1) .nil)))
  (.cons (.ifs (.nt (.val (.call "_law_alike" (.cons (.sub (.var 0) (.var 2)) (.cons (.sub (.var 1) (.var 2)) .nil)))))
  (.cons (.ret (.bl false))
  .nil)
  .nil)
  .nil))
  (.cons (.ret (.bl true))
  .nil))))))))
def N_all : List Str := ["_law_works", "_law_due", "_law_work"]
def b_all : Ss := (.cons (.ret (.cmp .Eq (.comp (.var 2) (.nm 2) (.seq (.var 0)) (.nt (.val (.call "_law_alike" (.cons (.call "_law_told" (.cons (.var 2) .nil)) (.cons (.var 1) .nil))))) [2]) (.lst .nil)))
  .nil)

/-! ### a walk by itself -/
local macro_rules | `(tactic| walk_at "mem") => `(tactic| (first | exact List.Mem.head _ | (apply List.Mem.tail; walk_at "mem")))
local macro_rules | `(tactic| walk_at "rp") => `(tactic| (first | exact Rp.hd | (apply Rp.tl; walk_at "rp")))
local macro_rules | `(tactic| walk_at "pk") => `(tactic| (first | exact Pk.hd | (apply Pk.tl; walk_at "pk")))
local macro_rules | `(tactic| walk_at "go1") => `(tactic| with_reducible (first
  | refine q_set ?_ | refine q_exp ?_ | refine q_doc ?_ | refine q_pass ?_ | refine q_ret ?_ | refine q_retN ?_ | refine q_brk ?_ | refine q_cont ?_ | refine q_if ?_ | refine q_par ?_ | refine q_setFld ?_ | refine q_setSub ?_ | refine q_for ?_
  | refine e_int ?_ | refine e_str ?_ | refine e_bl ?_ | refine e_non ?_ | refine e_bin ?_ | refine e_neg ?_ | refine e_nt ?_ | refine e_cmp ?_ | refine e_chain ?_ | refine e_and ?_ | refine e_or ?_ | refine e_ife ?_ | refine e_fld ?_ | refine e_sub ?_ | refine e_tup ?_ | refine e_lst ?_ | refine e_bi ?_ | refine e_meth ?_
  | refine es_nil ?_ | refine es_cons ?_ | refine t_yes ?_ | refine t_nt ?_ | refine t_and ?_ | refine t_or ?_ | refine t_cmp ?_ | refine t_val ?_ | refine i_seq ?_ | refine i_rng ?_
  | refine x_bl ?_ | refine x_in ?_ | refine tr_bl ?_ | refine tr_int ?_ | refine tr_non ?_
  | refine b_add ?_ | refine b_sub ?_ | refine c_lt ?_ | refine c_le ?_ | refine c_gt ?_ | refine c_ge ?_ | refine c_is ?_ | refine c_isnt ?_ | refine i_intB ?_ | refine c_eqI ?_ | refine c_neI ?_ | refine c_eqB ?_ | refine c_neB ?_ | refine c_eqS ?_ | refine q_nil ?_ | refine x_itt ?_ | refine x_iff ?_))
local macro_rules | `(tactic| walk_at "go2") => `(tactic| (first
  | ((with_reducible refine' e_var ?hg ?hh); (case hg => rfl))
  | ((with_reducible refine' s_0 ?hx ?hm ?hg ?hh); (case hx => assumption); (case hm => walk_at "mem"); (case hg => rfl))
  | ((with_reducible refine' s_1 ?hx ?hm ?hg ?hh); (case hx => assumption); (case hm => walk_at "mem"); (case hg => rfl))
  | ((with_reducible refine' s_2 ?hx ?hm ?hg ?hh); (case hx => assumption); (case hm => walk_at "mem"); (case hg => rfl))
  | ((with_reducible refine' p_0 ?hx ?hr ?hb ?hh); (case hx => assumption); (case hr => walk_at "rp"); (case hb => first | (simp; done) | decide); intros)
  | ((with_reducible refine' p_1 ?hx ?hr ?hb ?hh); (case hx => assumption); (case hr => walk_at "rp"); (case hb => first | (simp; done) | decide); intros)
  | ((with_reducible refine' n_lst ?hx ?hb ?hh); (case hx => assumption); (case hb => first | decide | (simp only [List.length_cons, List.length_nil]; decide)); intros)
  | ((with_reducible refine' n_tup ?hx ?hb ?hh); (case hx => assumption); (case hb => first | decide | (simp only [List.length_cons, List.length_nil]; decide)); intros)))
local macro_rules | `(tactic| walk_at "go") => `(tactic| repeat (first | walk_at "go1" | walk_at "go2"))
def BoxA (a : Addr) : HP := fun h => ∃ p ns z, SL [pt a (.lst [.ref p, .int z]), pt p (.lst (List.map V.int ns))] h
def spTake : Sp := fun vs H Q _ => ∃ a n l, vs = [.ref a, .int n] ∧ 0 < n ∧ n.natAbs.log2 < 9000 ∧ SL (BoxA a :: l) H ∧ ∀ H' i, 0 ≤ i → i < n → SL (BoxA a :: l) H' → Q (.int i) H'
theorem BoxA.of {a p : Addr} {z : Int} {ns : List Int} {l : List HP} {H : Hp} (x : SL (pt a (.lst [.ref p, .int z]) :: pt p (.lst (List.map V.int ns)) :: l) H) : SL (BoxA a :: l) H :=
  (SL.unnest (m := [_, _]) x).imp fun h y => ⟨p, ns, z, y⟩
theorem dp_ints {K : PySem.W.Frag} {H : Hp} : ∀ ns : List Int, DpAll K H (ns.map V.int) (ns.map PyData.int)
  | [] => .nil
  | _ :: r => .cons (.int _) (dp_ints r)
theorem lay_ints : ∀ ns : List Int, PyData.canLayAll0 (ns.map PyData.int) = true
  | [] => rfl
  | _ :: r => by simp [PyData.canLayAll0, PyData.canLay0, lay_ints r]
theorem dep_ints : ∀ ns : List Int, PyData.depthAll (ns.map PyData.int) = 0
  | [] => rfl
  | _ :: r => by simp [PyData.depthAll, PyData.depth, dep_ints r]
theorem c_nilI {K : PySem.W.Frag} {H : Hp} {Q : VK} {p q : Addr} {ns : List Int} (ep : SqL K H p (ns.map V.int)) (eq : SqL K H q []) (h : Q (.bl ns.isEmpty) H) : rCmp K .Eq (.ref p) (.ref q) H Q := by
  refine c_eqD (.lst ep (dp_ints ns)) (.lst eq .nil) ?_ (by decide +kernel) ?_
  · unfold SeqAt.shaped
    simp [PyData.canLay0, lay_ints, PyData.depth, dep_ints]
  · have : PyData.eqv (.list (ns.map PyData.int)) (.list []) = ns.isEmpty := by
      cases ns <;> simp [PyData.eqv, PyData.eqvAll]
    rw [this]
    exact h
theorem w_take {R : Rx} {k : Nat} {vs : List V} {H : Hp} {Q : VK} {X : XK} (h : spTake vs H Q X) : wSs R k b_take (fun cls d _ H' => X cls d H') { nx := fun _ H' => Q .non H', rt := Q } (L2.start N_take vs) H := by
  obtain ⟨a, n, l, rfl, hn, hb, x, hq⟩ := h
  obtain ⟨p, x⟩ := x.ex
  obtain ⟨ns, x⟩ := x.ex
  obtain ⟨z, x⟩ := x.ex
  have x : SL (pt a (.lst [.ref p, .int z]) :: pt p (.lst (List.map V.int ns)) :: l) H := x.nest
  show wSs R k b_take _ _ [some (.ref a), some (.int n), none] H
  unfold b_take
  walk_at "go"
  rename_i q H1 x1
  refine c_nilI (sq_l (SL.get (by walk_at "mem") x1)) (sq_l (SL.get (by walk_at "mem") x1)) ?_
  walk_at "go"
  cases ns with
  | nil =>
    refine x_ite (fun _ => ?_) (fun c => by cases c)
    walk_at "go"
    refine b_mul (.inr ⟨by decide, by decide⟩) ?_
    walk_at "go"
    refine b_mod (by decide) ?_
    walk_at "go"
    walk_at "go"
    refine b_div ⟨by decide, by decide⟩ ?_
    walk_at "go"
    refine b_mod hn ?_
    rename_i H2 x2
    have y : SL (BoxA a :: l) H2 := BoxA.of (ns := []) x2.tail
    exact hq H2 _ (Int.emod_nonneg _ (by omega)) (Int.emod_lt_of_pos _ hn) y
  | cons i ns =>
    refine x_ite (fun c => by cases c) (fun _ => ?_)
    walk_at "go"
    refine b_div ⟨hn, hb⟩ ?_
    walk_at "go"
    rename_i H2 x2
    have fin : ∀ (ms : List Int) H', SL (pt q (.lst []) :: pt a (.lst [.ref p, .int z]) :: pt p (.lst (List.map V.int ms)) :: l) H' → Q (.int (i % n)) H' := fun ms H' y =>
      hq H' _ (Int.emod_nonneg _ (by omega)) (Int.emod_lt_of_pos _ hn) (BoxA.of y.tail)
    refine x_ite (fun _ => ?_) (fun _ => ?_)
    · walk_at "go"
      refine x_bm .popAt (by decide) (ty_l (sq_l (SL.get (by walk_at "mem") x2))) ?_
      walk_at "go"
      refine m_pop0 x2 (by walk_at "rp") fun H3 x3 => ?_
      walk_at "go"
      refine b_mod hn ?_
      exact fin _ _ x3
    · walk_at "go"
      refine x_ite (fun _ => ?_) (fun _ => ?_)
      · walk_at "go"
        refine x_bm .popAt (by decide) (ty_l (sq_l (SL.get (by walk_at "mem") x2))) ?_
        walk_at "go"
        refine m_pop0 x2 (by walk_at "rp") fun H3 x3 => ?_
        walk_at "go"
        refine b_mod hn ?_
        exact fin _ _ x3
      · walk_at "go"
        refine b_mod hn ?_
        exact fin ((i / n) :: ns) _ x2
end Zw

set_option Elab.async false
set_option linter.all false
set_option maxRecDepth 100000
set_option maxHeartbeats 4000000
namespace Zw
open PySem PySem.Spec PyProof.Rows L2
local macro_rules | `(tactic| walk_at "mem") => `(tactic| (first | exact List.Mem.head _ | (apply List.Mem.tail; walk_at "mem")))
local macro_rules | `(tactic| walk_at "rp") => `(tactic| (first | exact Rp.hd | (apply Rp.tl; walk_at "rp")))
local macro_rules | `(tactic| walk_at "pk") => `(tactic| (first | exact Pk.hd | (apply Pk.tl; walk_at "pk")))
local macro_rules | `(tactic| walk_at "go1") => `(tactic| with_reducible (first
  | refine q_set ?_ | refine q_exp ?_ | refine q_doc ?_ | refine q_pass ?_ | refine q_ret ?_ | refine q_retN ?_ | refine q_brk ?_ | refine q_cont ?_ | refine q_if ?_ | refine q_par ?_ | refine q_setFld ?_ | refine q_setSub ?_ | refine q_for ?_
  | refine e_int ?_ | refine e_str ?_ | refine e_bl ?_ | refine e_non ?_ | refine e_bin ?_ | refine e_neg ?_ | refine e_nt ?_ | refine e_cmp ?_ | refine e_chain ?_ | refine e_and ?_ | refine e_or ?_ | refine e_ife ?_ | refine e_fld ?_ | refine e_sub ?_ | refine e_tup ?_ | refine e_lst ?_ | refine e_bi ?_ | refine e_meth ?_
  | refine es_nil ?_ | refine es_cons ?_ | refine t_yes ?_ | refine t_nt ?_ | refine t_and ?_ | refine t_or ?_ | refine t_cmp ?_ | refine t_val ?_ | refine i_seq ?_ | refine i_rng ?_
  | refine x_bl ?_ | refine x_in ?_ | refine tr_bl ?_ | refine tr_int ?_ | refine tr_non ?_
  | refine b_add ?_ | refine b_sub ?_ | refine c_lt ?_ | refine c_le ?_ | refine c_gt ?_ | refine c_ge ?_ | refine c_is ?_ | refine c_isnt ?_ | refine i_intB ?_ | refine c_eqI ?_ | refine c_neI ?_ | refine c_eqB ?_ | refine c_neB ?_ | refine c_eqS ?_ | refine q_nil ?_ | refine x_itt ?_ | refine x_iff ?_))
local macro_rules | `(tactic| walk_at "go2") => `(tactic| (first
  | ((with_reducible refine' e_var ?hg ?hh); (case hg => rfl))
  | ((with_reducible refine' s_0 ?hx ?hm ?hg ?hh); (case hx => assumption); (case hm => walk_at "mem"); (case hg => rfl))
  | ((with_reducible refine' s_1 ?hx ?hm ?hg ?hh); (case hx => assumption); (case hm => walk_at "mem"); (case hg => rfl))
  | ((with_reducible refine' s_2 ?hx ?hm ?hg ?hh); (case hx => assumption); (case hm => walk_at "mem"); (case hg => rfl))
  | ((with_reducible refine' p_0 ?hx ?hr ?hb ?hh); (case hx => assumption); (case hr => walk_at "rp"); (case hb => first | (simp; done) | decide); intros)
  | ((with_reducible refine' p_1 ?hx ?hr ?hb ?hh); (case hx => assumption); (case hr => walk_at "rp"); (case hb => first | (simp; done) | decide); intros)
  | ((with_reducible refine' n_lst ?hx ?hb ?hh); (case hx => assumption); (case hb => first | decide | (simp only [List.length_cons, List.length_nil]; decide)); intros)
  | ((with_reducible refine' n_tup ?hx ?hb ?hh); (case hx => assumption); (case hb => first | decide | (simp only [List.length_cons, List.length_nil]; decide)); intros)))
local macro_rules | `(tactic| walk_at "go") => `(tactic| repeat (first | walk_at "go1" | walk_at "go2"))
def spBegun (K : PySem.W.Frag) : Sp := fun vs H Q _ => ∃ (a : Addr) (ns : List Int) (l : List HP), vs = [.ref a] ∧ ns.length ≤ sizeLine ∧ SL l H ∧ (∀ H', SL l H' → SqL K H' a (ns.map V.int)) ∧ ∀ b H', SL (BoxA b :: l) H' → Q (.ref b) H'
theorem w_begun {R : Rx} {k : Nat} {vs : List V} {H : Hp} {Q : VK} {X : XK} (h : spBegun R.K vs H Q X) : wSs R k b_begun (fun cls d _ H' => X cls d H') { nx := fun _ H' => Q .non H', rt := Q } (L2.start N_begun vs) H := by
  obtain ⟨a, ns, l, rfl, hl, x, m, hq⟩ := h
  show wSs R k b_begun _ _ [some (.ref a), none, none] H
  unfold b_begun
  walk_at "go"
  refine l_lst (fun _ σ H => SL l H ∧ ∃ z c, σ = [some (.ref a), some (.int z), c]) (m _ x) ⟨x, 0, _, rfl⟩ (fun j σ H i => m _ i.1) (fun j v σ H hv i => ?_) fun σ H i => ?_
  · obtain ⟨x1, z, c, rfl⟩ := i
    rw [List.getElem?_map] at hv
    cases hj : ns[j]? with
    | none => rw [hj] at hv; cases hv
    | some y =>
      rw [hj] at hv
      cases hv
      walk_at "go"
      refine b_mul (.inr ⟨by decide, by decide⟩) ?_
      walk_at "go"
      refine b_mul (.inr ⟨by decide, by decide⟩) ?_
      walk_at "go"
      refine b_mod (by decide) ?_
      walk_at "go"
      exact ⟨x1, _, _, rfl⟩
  · obtain ⟨x1, z, c, rfl⟩ := i
    walk_at "go"
    refine i_list (m _ x1) (n_o x1 fun p H2 x2 => ?_)
    walk_at "go"
    refine i_len (len_l (m _ x2.tail)) ?_
    walk_at "go"
    refine b_mul (.inr ?_) ?_
    · split <;> exact ⟨by decide, by decide⟩
    walk_at "go"
    rename_i b H3 x3
    exact hq b H3 (BoxA.of x3)
theorem fn_begun {R : Rt} {st : Stmt} {qual : Str} {f : Addr} {fd : FuncData} {k : Nat} (F : Fun R.K "_law_begun" qual st f fd) (blt : ∀ x ∈ bltNames, R.mg x = none)
    (S : scopeB N_begun ["_law_script"] (defScope st) = true) (hc : cSs N_begun 60 .no (defScope st) (defBody st) = some b_begun) : FnOk R.P R.w R.K R.mg R.base (L2.CX R.P R.w) (k + 1) f fd ["_law_script"] (spBegun R.K) := by
  refine fn_wp F S hc blt (fun vs H Q E h => ?_) fun vs H Q E h => ?_
  · obtain ⟨a, _, _, rfl, _⟩ := h
    rfl
  · exact w_begun (R := ⟨R, [], fun _ _ _ => False, none⟩) h
theorem fn_take {R : Rt} {st : Stmt} {qual : Str} {f : Addr} {fd : FuncData} {k : Nat} (F : Fun R.K "_law_take" qual st f fd) (blt : ∀ x ∈ bltNames, R.mg x = none)
    (S : scopeB N_take ["_law_box", "_law_many"] (defScope st) = true) (hc : cSs N_take 60 .no (defScope st) (defBody st) = some b_take) : FnOk R.P R.w R.K R.mg R.base (L2.CX R.P R.w) (k + 1) f fd ["_law_box", "_law_many"] spTake := by
  refine fn_wp F S hc blt (fun vs H Q E h => ?_) fun vs H Q E h => ?_
  · obtain ⟨a, n, _, rfl, _⟩ := h
    rfl
  · exact w_take (R := ⟨R, [], fun _ _ _ => False, none⟩) h
end Zw

set_option Elab.async false
set_option linter.all false
set_option maxRecDepth 100000
set_option maxHeartbeats 4000000
namespace Zw
open PySem PySem.Spec PyProof.Rows L2
local macro_rules | `(tactic| walk_at "mem") => `(tactic| (first | exact List.Mem.head _ | (apply List.Mem.tail; walk_at "mem")))
local macro_rules | `(tactic| walk_at "rp") => `(tactic| (first | exact Rp.hd | (apply Rp.tl; walk_at "rp")))
local macro_rules | `(tactic| walk_at "pk") => `(tactic| (first | exact Pk.hd | (apply Pk.tl; walk_at "pk")))
local macro_rules | `(tactic| walk_at "go1") => `(tactic| with_reducible (first
  | refine q_set ?_ | refine q_exp ?_ | refine q_doc ?_ | refine q_pass ?_ | refine q_ret ?_ | refine q_retN ?_ | refine q_brk ?_ | refine q_cont ?_ | refine q_if ?_ | refine q_par ?_ | refine q_setFld ?_ | refine q_setSub ?_ | refine q_for ?_
  | refine e_int ?_ | refine e_str ?_ | refine e_bl ?_ | refine e_non ?_ | refine e_bin ?_ | refine e_neg ?_ | refine e_nt ?_ | refine e_cmp ?_ | refine e_chain ?_ | refine e_and ?_ | refine e_or ?_ | refine e_ife ?_ | refine e_fld ?_ | refine e_sub ?_ | refine e_tup ?_ | refine e_lst ?_ | refine e_bi ?_ | refine e_meth ?_
  | refine es_nil ?_ | refine es_cons ?_ | refine t_yes ?_ | refine t_nt ?_ | refine t_and ?_ | refine t_or ?_ | refine t_cmp ?_ | refine t_val ?_ | refine i_seq ?_ | refine i_rng ?_
  | refine x_bl ?_ | refine x_in ?_ | refine tr_bl ?_ | refine tr_int ?_ | refine tr_non ?_
  | refine b_add ?_ | refine b_sub ?_ | refine c_lt ?_ | refine c_le ?_ | refine c_gt ?_ | refine c_ge ?_ | refine c_is ?_ | refine c_isnt ?_ | refine i_intB ?_ | refine c_eqI ?_ | refine c_neI ?_ | refine c_eqB ?_ | refine c_neB ?_ | refine c_eqS ?_ | refine q_nil ?_ | refine x_itt ?_ | refine x_iff ?_))
local macro_rules | `(tactic| walk_at "go2") => `(tactic| (first
  | ((with_reducible refine' e_var ?hg ?hh); (case hg => rfl))
  | ((with_reducible refine' s_0 ?hx ?hm ?hg ?hh); (case hx => assumption); (case hm => walk_at "mem"); (case hg => rfl))
  | ((with_reducible refine' s_1 ?hx ?hm ?hg ?hh); (case hx => assumption); (case hm => walk_at "mem"); (case hg => rfl))
  | ((with_reducible refine' s_2 ?hx ?hm ?hg ?hh); (case hx => assumption); (case hm => walk_at "mem"); (case hg => rfl))
  | ((with_reducible refine' p_0 ?hx ?hr ?hb ?hh); (case hx => assumption); (case hr => walk_at "rp"); (case hb => first | (simp; done) | decide); intros)
  | ((with_reducible refine' p_1 ?hx ?hr ?hb ?hh); (case hx => assumption); (case hr => walk_at "rp"); (case hb => first | (simp; done) | decide); intros)
  | ((with_reducible refine' n_lst ?hx ?hb ?hh); (case hx => assumption); (case hb => first | decide | (simp only [List.length_cons, List.length_nil]; decide)); intros)
  | ((with_reducible refine' n_tup ?hx ?hb ?hh); (case hx => assumption); (case hb => first | decide | (simp only [List.length_cons, List.length_nil]; decide)); intros)))
local macro_rules | `(tactic| walk_at "go") => `(tactic| repeat (first | walk_at "go1" | walk_at "go2"))
/-! ### alike -/
/-- kinds of plain values -/
inductive Kd where
  | non | bl | int | str | lst | tup | dct
  deriving DecidableEq
def Kd.nm : Kd → String
  | .non => "NoneType" | .bl => "bool" | .int => "int" | .str => "str" | .lst => "list" | .tup => "tuple" | .dct => "dict"
def kd : PyData → Kd
  | .none => .non | .bool _ => .bl | .int _ => .int | .str _ => .str | .list _ => .lst | .tuple _ => .tup | .dict _ => .dct
theorem dp_ty {K : PySem.W.Frag} {H : Hp} {v : V} {d : PyData} (h : Dp K H v d) : TyX K H v (.type (kd d).nm) := by
  cases h with
  | non => exact .base .non
  | bl b => exact .base (.bl b)
  | int i => exact .base (.int i)
  | str x => exact .base (.str x)
  | lst s _ =>
    rcases s with (s | ⟨o, s⟩) | ⟨o, its, n, s, c, _⟩
    · exact .base (.lst s)
    · exact .base (.frz s)
    · exact .kList s c
  | tup s _ =>
    rcases s with (s | ⟨o, s⟩) | ⟨o, its, n, s, c, _⟩
    · exact .base (.tup s)
    · exact .fTuple s
    · exact .kTuple s c
theorem isi_dp {K : PySem.W.Frag} {xc : XC} {H : Hp} {v : V} {d : PyData} {b : String} {Q : VK} {g : Kd → Bool} (ok : ∀ t : Kd, kitB t.nm b = some (g t)) (hd : Dp K H v d) (h : Q (.bl (g (kd d))) H) : rBi K xc .isinstance [v, .ty b] H Q :=
  i_isi (.ty b) (dp_ty hd) (kit_ty (ok _)) h
def gBl : Kd → Bool | .bl => true | _ => false
def gInt : Kd → Bool | .bl => true | .int => true | _ => false
def gStr : Kd → Bool | .str => true | _ => false
def gTup : Kd → Bool | .tup => true | _ => false
def gLst : Kd → Bool | .lst => true | _ => false
theorem ok_bl (t : Kd) : kitB t.nm "bool" = some (gBl t) := by cases t <;> decide +kernel
theorem ok_int (t : Kd) : kitB t.nm "int" = some (gInt t) := by cases t <;> decide +kernel
theorem ok_str (t : Kd) : kitB t.nm "str" = some (gStr t) := by cases t <;> decide +kernel
theorem ok_tup (t : Kd) : kitB t.nm "tuple" = some (gTup t) := by cases t <;> decide +kernel
theorem ok_lst (t : Kd) : kitB t.nm "list" = some (gLst t) := by cases t <;> decide +kernel
theorem e_ty {R : Rx} {k : Nat} {W : WX} {σ : L2.St} {H : Hp} {Q : VK} {x : Str} {n : String} (hx : bootBuiltins x = some (.type n)) (h : Q (.ty n) H) : wE R k (.bltn x) W σ H Q := e_bltn (v := .ty n) hx (show L2.RelV (.ty n) _ from rfl) h
local macro_rules | `(tactic| walk_at "go2") => `(tactic| (first
  | ((with_reducible refine' e_ty ?hg ?hh); (case hg => rfl))
  | ((with_reducible refine' isi_dp ok_bl ?hx ?hh); (case hx => assumption))
  | ((with_reducible refine' isi_dp ok_int ?hx ?hh); (case hx => assumption))
  | ((with_reducible refine' isi_dp ok_str ?hx ?hh); (case hx => assumption))
  | ((with_reducible refine' isi_dp ok_tup ?hx ?hh); (case hx => assumption))
  | ((with_reducible refine' isi_dp ok_lst ?hx ?hh); (case hx => assumption))
  | ((with_reducible refine' x_dt ?hc ?hh); (case hc => rfl))
  | ((with_reducible refine' x_df ?hc ?hh); (case hc => rfl))))
mutual
def szB : PyData → Bool
  | .list xs | .tuple xs => decide (xs.length ≤ sizeLine) && szAll xs
  | .none | .bool _ | .int _ | .str _ => true
  | .dict _ => false
def szAll : List PyData → Bool
  | [] => true
  | x :: r => szB x && szAll r
end
def spAlike (K : PySem.W.Frag) (n : Nat) : Sp := fun vs H Q _ => ∃ x y d e, vs = [x, y] ∧ Dp K H x d ∧ Dp K H y e ∧ szB e = true ∧ e.depth ≤ n ∧ ∀ b : Bool, (b = true ↔ d = e) → Q (.bl b) H
def Sq (K : PySem.W.Frag) (H : Hp) (p : Addr) (xs : List V) : Prop := SqL K H p xs ∨ SqT K H p xs
section
variable {K : PySem.W.Frag} {xc : XC} {H : Hp} {Q : VK} {p : Addr} {xs : List V}
theorem sq_len (s : Sq K H p xs) (h : Q (.int xs.length) H) : rBi K xc .len [.ref p] H Q := s.elim (fun s => i_len (len_l s) h) fun s => i_len (len_t s) h
theorem sq_at {i : Nat} {v : V} (s : Sq K H p xs) (g : xs[i]? = some v) (h : Q v H) : rSubs K (.ref p) (.int (i : Nat)) H Q := s.elim (fun s => s_lst s g h) fun s => s_tup s g h
theorem DpAll.len' : ∀ {xs : List V} {ds : List PyData}, DpAll K H xs ds → xs.length = ds.length
  | _, _, .nil => rfl
  | _, _, .cons _ t => congrArg Nat.succ (DpAll.len' t)
theorem DpAll.at' : ∀ {xs : List V} {ds : List PyData} {i : Nat}, DpAll K H xs ds → i < xs.length → ∃ v d, xs[i]? = some v ∧ ds[i]? = some d ∧ Dp K H v d
  | _, _, i, .nil, h => absurd h (Nat.not_lt_zero _)
  | _, _, 0, .cons a t, _ => ⟨_, _, rfl, rfl, a⟩
  | _, _, i + 1, .cons a t, h => by
    obtain ⟨v, d, h1, h2, h3⟩ := DpAll.at' (i := i) t (Nat.lt_of_succ_lt_succ h)
    exact ⟨v, d, by simpa using h1, by simpa using h2, h3⟩
end
theorem szAll_at : ∀ {es : List PyData} {i : Nat} {e : PyData}, szAll es = true → es[i]? = some e → szB e = true
  | [], _, _, _, h => by simp at h
  | _ :: _, 0, _, s, h => by
    simp [szAll] at s h
    rw [← h]; exact s.1
  | _ :: r, i + 1, _, s, h => by
    simp [szAll] at s h
    exact szAll_at s.2 h
theorem dep_at : ∀ {es : List PyData} {i : Nat} {e : PyData}, es[i]? = some e → e.depth ≤ PyData.depthAll es
  | [], _, _, h => by simp at h
  | _ :: _, 0, _, h => by
    simp at h
    rw [← h]
    unfold PyData.depthAll
    exact Nat.le_max_left _ _
  | _ :: r, i + 1, _, h => by
    have := dep_at (es := r) (i := i) (by simpa using h)
    unfold PyData.depthAll
    exact Nat.le_trans this (Nat.le_max_right _ _)
abbrev b_alikeT : Ss := (.cons (.ifs (.cmp (.cmp .NotEq (.callB .len (.cons (.var 0) .nil)) (.callB .len (.cons (.var 1) .nil))))
  (.cons (.ret (.bl false))
  .nil)
  .nil)
  (.cons (.fors (.nm 2) (.rng1 (.callB .len (.cons (.var 1) .nil)))
  (.cons (.ifs (.nt (.val (.call "_law_alike" (.cons (.sub (.var 0) (.var 2)) (.cons (.sub (.var 1) (.var 2)) .nil)))))
  (.cons (.ret (.bl false))
  .nil)
  .nil)
  .nil))
  (.cons (.ret (.bl true))
  .nil)))
theorem w_alikeT {R : Rx} {k m : Nat} {H : Hp} {Q : VK} {W : WX} {N : L2.St → Hp → Prop} {p q : Addr} {xs ys : List V} {ds es : List PyData} (sx : Sq R.K H p xs) (sy : Sq R.K H q ys) (ax : DpAll R.K H xs ds) (ay : DpAll R.K H ys es) (hl : es.length ≤ sizeLine) (sz : szAll es = true) (dep : PyData.depthAll es ≤ m)
    (A : ∃ f, R.mg "_law_alike" = some (.ref f) ∧ PySem.W.keepIn R.K (.ref f) = true ∧ CallOk R.toRt k f (spAlike R.K m)) (hq : ∀ b : Bool, (b = true ↔ ds = es) → Q (.bl b) H) :
    wSs R k b_alikeT W { nx := N, rt := Q } [some (.ref p), some (.ref q), none] H := by
  obtain ⟨f, a1, a2, a3⟩ := A
  have lx := DpAll.len' ax
  have ly := DpAll.len' ay
  walk_at "go"
  refine sq_len sx ?_
  walk_at "go"
  refine sq_len sy ?_
  walk_at "go"
  refine x_ite (fun c => ?_) (fun c => ?_)
  · walk_at "go"
    refine hq false ⟨fun z => (by cases z), fun z => ?_⟩
    subst z
    simp at c
    omega
  · have hn : xs.length = ys.length := by
      simp at c
      omega
    walk_at "go"
    refine sq_len sy ?_
    refine l_rng (fun j σ H' => H' = H ∧ (∃ c, σ = [some (.ref p), some (.ref q), c]) ∧ ∀ i, i < j → ds[i]? = es[i]?) ?_ ⟨rfl, ⟨_, rfl⟩, fun i h => absurd h (Nat.not_lt_zero _)⟩ (fun j σ H' hj I => ?_) fun σ H' I => ?_
    · have := L2.line63
      have e : sizeLine = 16777216 := sizeLine_eq
      omega
    · obtain ⟨rfl, ⟨c, rfl⟩, pre⟩ := I
      obtain ⟨v, d, v1, v2, v3⟩ := DpAll.at' (i := j) ax (by omega)
      obtain ⟨u, e, u1, u2, u3⟩ := DpAll.at' (i := j) ay (by omega)
      walk_at "go"
      refine e_call a1 a2 ?_
      walk_at "go"
      refine sq_at sx v1 ?_
      walk_at "go"
      refine sq_at sy u1 ?_
      walk_at "go"
      refine x_sp a3 ⟨v, u, d, e, rfl, v3, u3, szAll_at sz u2, Nat.le_trans (dep_at u2) dep, fun b hb => ?_⟩
      walk_at "go"
      cases b with
      | true =>
        walk_at "go"
        refine ⟨rfl, ⟨_, rfl⟩, fun i hi => ?_⟩
        by_cases hi' : i < j
        · exact pre i hi'
        · have : i = j := by omega
          subst this
          rw [v2, u2, hb.mp rfl]
      | false =>
        walk_at "go"
        refine hq false ⟨fun z => (by cases z), fun z => ?_⟩
        subst z
        rw [v2] at u2
        cases u2
        exact hb.mpr rfl
    · obtain ⟨rfl, ⟨c, rfl⟩, pre⟩ := I
      walk_at "go"
      refine hq true ⟨fun _ => ?_, fun _ => rfl⟩
      apply List.ext_getElem?
      intro i
      by_cases hi : i < ys.length
      · exact pre i hi
      · rw [List.getElem?_eq_none_iff.mpr (by omega), List.getElem?_eq_none_iff.mpr (by omega)]
theorem w_alike {R : Rx} {k n : Nat} {vs : List V} {H : Hp} {Q : VK} {X : XK} (A : ∀ m, n = m + 1 → ∃ f, R.mg "_law_alike" = some (.ref f) ∧ PySem.W.keepIn R.K (.ref f) = true ∧ CallOk R.toRt k f (spAlike R.K m)) (h : spAlike R.K n vs H Q X) :
    wSs R k b_alike (fun cls d _ H' => X cls d H') { nx := fun _ H' => Q .non H', rt := Q } (L2.start N_alike vs) H := by
  obtain ⟨x, y, d, e, rfl, hd, he, sz, dep, hq⟩ := h
  show wSs R k b_alike _ _ [some x, some y, none] H
  unfold b_alike
  have he' := he
  have hd' := hd
  cases he with
  | non => walk_at "go"; cases hd <;> exact hq _ (by simp)
  | bl b => walk_at "go"; cases hd <;> walk_at "go" <;> exact hq _ (by simp [gBl, kd])
  | int i => walk_at "go"; cases hd <;> walk_at "go" <;> exact hq _ (by simp [gBl, gInt, kd])
  | str z => walk_at "go"; cases hd <;> walk_at "go" <;> exact hq _ (by simp [gStr, kd])
  | lst s a =>
    rename_i q ys es
    walk_at "go"
    cases hd
    case lst p xs ds s2 a2 =>
      unfold szB at sz
      unfold PyData.depth at dep
      simp only [Bool.and_eq_true, decide_eq_true_eq] at sz
      have hh : wSs R k b_alikeT (fun cls d _ H' => X cls d H') { nx := fun x H' => Q V.non H', rt := Q } [some (.ref p), some (.ref q), none] H :=
        w_alikeT (m := n - 1) (.inl s2) (.inl s) a2 a sz.1 sz.2 (by omega) (A (n - 1) (by omega)) fun b hb => hq b (by rw [hb]; exact ⟨fun h => by rw [h], fun h => by cases h; rfl⟩)
      repeat (first | (with_reducible exact hh) | walk_at "go1" | walk_at "go2")
    all_goals walk_at "go"
    all_goals exact hq _ (by simp [gTup, gLst, kd])
  | tup s a =>
    rename_i q ys es
    walk_at "go"
    cases hd
    case tup p xs ds s2 a2 =>
      unfold szB at sz
      unfold PyData.depth at dep
      simp only [Bool.and_eq_true, decide_eq_true_eq] at sz
      have hh : wSs R k b_alikeT (fun cls d _ H' => X cls d H') { nx := fun x H' => Q V.non H', rt := Q } [some (.ref p), some (.ref q), none] H :=
        w_alikeT (m := n - 1) (.inr s2) (.inr s) a2 a sz.1 sz.2 (by omega) (A (n - 1) (by omega)) fun b hb => hq b (by rw [hb]; exact ⟨fun h => by rw [h], fun h => by cases h; rfl⟩)
      repeat (first | (with_reducible exact hh) | walk_at "go1" | walk_at "go2")
    all_goals walk_at "go"
    all_goals exact hq _ (by simp [gTup, gLst, kd])
/-- alike at every depth -/
theorem fn_alike {R : Rt} {st : Stmt} {qual : Str} {f : Addr} {fd : FuncData} (F : Fun R.K "_law_alike" qual st f fd) (hb : Binds R.K fd ["_law_found", "_law_due"] []) (hf : R.mg "_law_alike" = some (.ref f)) (hk : PySem.W.keepIn R.K (.ref f) = true) (blt : ∀ x ∈ bltNames, R.mg x = none)
    (S : scopeB N_alike ["_law_found", "_law_due"] (defScope st) = true) (hc : cSs N_alike 60 .no (defScope st) (defBody st) = some b_alike) :
    ∀ n, FnOk R.P R.w R.K R.mg R.base (L2.CX R.P R.w) (n + 1) f fd ["_law_found", "_law_due"] (spAlike R.K n)
  | n => by
    refine fn_wp F S hc blt (fun vs H Q E h => ?_) fun vs H Q E h => ?_
    · obtain ⟨x, y, _, _, rfl, _⟩ := h
      rfl
    · refine w_alike (R := ⟨R, [], fun _ _ _ => False, none⟩) (fun m hm => ?_) h
      subst hm
      exact ⟨f, hf, hk, CallOk.fn (fn_alike F hb hf hk blt S hc m) hb (Nat.le_refl _)⟩
end Zw

set_option Elab.async false
set_option linter.all false
set_option maxRecDepth 100000
set_option maxHeartbeats 4000000
namespace Zw
open PySem PySem.Spec PyProof.Rows L2
local macro_rules | `(tactic| walk_at "mem") => `(tactic| (first | exact List.Mem.head _ | (apply List.Mem.tail; walk_at "mem")))
local macro_rules | `(tactic| walk_at "rp") => `(tactic| (first | exact Rp.hd | (apply Rp.tl; walk_at "rp")))
local macro_rules | `(tactic| walk_at "pk") => `(tactic| (first | exact Pk.hd | (apply Pk.tl; walk_at "pk")))
local macro_rules | `(tactic| walk_at "go1") => `(tactic| with_reducible (first
  | refine q_set ?_ | refine q_exp ?_ | refine q_doc ?_ | refine q_pass ?_ | refine q_ret ?_ | refine q_retN ?_ | refine q_brk ?_ | refine q_cont ?_ | refine q_if ?_ | refine q_par ?_ | refine q_setFld ?_ | refine q_setSub ?_ | refine q_for ?_
  | refine e_int ?_ | refine e_str ?_ | refine e_bl ?_ | refine e_non ?_ | refine e_bin ?_ | refine e_neg ?_ | refine e_nt ?_ | refine e_cmp ?_ | refine e_chain ?_ | refine e_and ?_ | refine e_or ?_ | refine e_ife ?_ | refine e_fld ?_ | refine e_sub ?_ | refine e_tup ?_ | refine e_lst ?_ | refine e_bi ?_ | refine e_meth ?_
  | refine es_nil ?_ | refine es_cons ?_ | refine t_yes ?_ | refine t_nt ?_ | refine t_and ?_ | refine t_or ?_ | refine t_cmp ?_ | refine t_val ?_ | refine i_seq ?_ | refine i_rng ?_
  | refine x_bl ?_ | refine x_in ?_ | refine tr_bl ?_ | refine tr_int ?_ | refine tr_non ?_
  | refine b_add ?_ | refine b_sub ?_ | refine c_lt ?_ | refine c_le ?_ | refine c_gt ?_ | refine c_ge ?_ | refine c_is ?_ | refine c_isnt ?_ | refine i_intB ?_ | refine c_eqI ?_ | refine c_neI ?_ | refine c_eqB ?_ | refine c_neB ?_ | refine c_eqS ?_ | refine q_nil ?_ | refine x_itt ?_ | refine x_iff ?_))
local macro_rules | `(tactic| walk_at "go2") => `(tactic| (first
  | ((with_reducible refine' e_var ?hg ?hh); (case hg => rfl))
  | ((with_reducible refine' s_0 ?hx ?hm ?hg ?hh); (case hx => assumption); (case hm => walk_at "mem"); (case hg => rfl))
  | ((with_reducible refine' s_1 ?hx ?hm ?hg ?hh); (case hx => assumption); (case hm => walk_at "mem"); (case hg => rfl))
  | ((with_reducible refine' s_2 ?hx ?hm ?hg ?hh); (case hx => assumption); (case hm => walk_at "mem"); (case hg => rfl))
  | ((with_reducible refine' p_0 ?hx ?hr ?hb ?hh); (case hx => assumption); (case hr => walk_at "rp"); (case hb => first | (simp; done) | decide); intros)
  | ((with_reducible refine' p_1 ?hx ?hr ?hb ?hh); (case hx => assumption); (case hr => walk_at "rp"); (case hb => first | (simp; done) | decide); intros)
  | ((with_reducible refine' n_lst ?hx ?hb ?hh); (case hx => assumption); (case hb => first | decide | (simp only [List.length_cons, List.length_nil]; decide)); intros)
  | ((with_reducible refine' n_tup ?hx ?hb ?hh); (case hx => assumption); (case hb => first | decide | (simp only [List.length_cons, List.length_nil]; decide)); intros)))
local macro_rules | `(tactic| walk_at "go") => `(tactic| repeat (first | walk_at "go1" | walk_at "go2"))
def N_told : List Str := ["_law_work", "e", "_law_kinds", "_law_words", "_law_word"]
def b_told : Ss := (.cons (.tryAs "VolumeError" 1
  (.cons (.ret (.callL 0))
  .nil)
  (.cons (.set 2 (.lst (.cons (.callB .isinstance (.cons (.var 1) (.cons (.glob "BadNumber") .nil))) (.cons (.callB .isinstance (.cons (.var 1) (.cons (.glob "BadSizes") .nil))) (.cons (.callB .isinstance (.cons (.var 1) (.cons (.glob "BadText") .nil))) (.cons (.callB .isinstance (.cons (.var 1) (.cons (.glob "BadVolume") .nil))) .nil))))))
  (.cons (.set 2 (.bin .Add (.var 2) (.lst (.cons (.callB .isinstance (.cons (.var 1) (.cons (.glob "Full") .nil))) (.cons (.callB .isinstance (.cons (.var 1) (.cons (.glob "Lost") .nil))) (.cons (.callB .isinstance (.cons (.var 1) (.cons (.glob "NoBlock") .nil))) (.cons (.callB .isinstance (.cons (.var 1) (.cons (.glob "NoDisk") .nil))) .nil)))))))
  (.cons (.set 2 (.bin .Add (.var 2) (.lst (.cons (.callB .isinstance (.cons (.var 1) (.cons (.glob "NoVolume") .nil))) (.cons (.callB .isinstance (.cons (.var 1) (.cons (.glob "Stopped") .nil))) .nil)))))
  (.cons (.ifs (.or2 (.cmp (.cmp .NotEq (.meth (.var 2) "count" [.count] (.cons (.bl true) .nil)) (.int 1))) (.nt (.val (.callB .isinstance (.cons (.var 1) (.cons (.bltn "ValueError") .nil))))))
  (.cons (.ret (.tup (.cons (.str "other") (.cons (.int 0) .nil))))
  .nil)
  .nil)
  (.cons (.set 3 (.lst (.cons (.str "BadNumber") (.cons (.str "BadSizes") (.cons (.str "BadText") (.cons (.str "BadVolume") (.cons (.str "Full") (.cons (.str "Lost") (.cons (.str "NoBlock") (.cons (.str "NoDisk") (.cons (.str "NoVolume") .nil)))))))))))
  (.cons (.set 4 (.sub (.bin .Add (.var 3) (.lst (.cons (.str "Stopped") .nil))) (.meth (.var 2) "index" [.index] (.cons (.bl true) .nil))))
  (.cons (.ret (.tup (.cons (.var 4) (.cons (.ife (.cmp (.cmp .Eq (.var 4) (.str "BadText"))) (.fld (.var 1) "row") (.int 0)) .nil))))
  .nil))))))))
  .nil)

/-- the names of the refusals that told tells apart -/
abbrev kindNames : List Str := ["BadNumber", "BadSizes", "BadText", "BadVolume", "Full", "Lost", "NoBlock", "NoDisk", "NoVolume", "Stopped"]
/-- their classes -/
structure Kinds (R : Rt) (VE : Addr) (cls : Str → Addr) : Prop where
  ve : R.mg "VolumeError" = some (.ref VE)
  mg : ∀ x ∈ kindNames, R.mg x = some (.ref (cls x))
  exm : ∀ x ∈ kindNames, PySem.W.exmOne R.K (.ref (cls x)) (.ref VE) = some true
  exc : ∀ x ∈ kindNames, ExcC R.K (cls x)
  isi : ∀ x ∈ kindNames, ∀ y ∈ kindNames, PySem.W.kitOne R.K (.ref (cls x)) (.ref (cls y)) = some (decide (x = y))
  val : ∀ x ∈ kindNames, PySem.W.kitOne R.K (.ref (cls x)) (.type "ValueError") = some true
theorem SL.ext {H1 : Hp} : ∀ {l : List HP} {H : Hp}, (fun h => ∀ a o, H1 a = some o → h a = some o) ∈ l → SL l H → ∀ a o, H1 a = some o → H a = some o
  | A :: l, H, m, ⟨h, g, a, b, d, x, y⟩, p, o, e => by
    cases m with
    | head => exact a p o (x p o e)
    | tail _ m => exact b p o (SL.ext m y p o e)
section
variable {R : Rx} {k : Nat} {W : WX} {σ : L2.St} {H : Hp} {Q : VK} {VE : Addr} {cls : Str → Addr}
theorem e_kind {x : Str} (KN : Kinds R.toRt VE cls) (m : x ∈ kindNames) (h : Q (.ref (cls x)) H) : wE R k (.glob x) W σ H Q := e_glob (v := .ref (cls x)) (KN.mg x m) rfl h
theorem i_kind {a dd : Addr} {fs : List (Str × V)} {H1 : Hp} {l : List HP} {w y : Str} {c : V} (KN : Kinds R.toRt VE cls) (hx : R.xc = some (a, .ref (cls w), some dd)) (hd : H1 dd = some (.xd fs)) (hs : SL l H) (hl : (fun h => ∀ a o, H1 a = some o → h a = some o) ∈ l) (mw : w ∈ kindNames) (ec : c = .ref (cls y)) (my : y ∈ kindNames) (h : Q (.bl (decide (w = y))) H) : rBi R.K R.xc .isinstance [.ref a, c] H Q := by
  subst ec; rw [hx]; exact i_isE (.inr ⟨dd, fs, rfl, SL.ext hl hs _ _ hd⟩) (KN.exc w mw) (fun u r => r) (KN.isi w mw y my) h
theorem i_val {a dd : Addr} {fs : List (Str × V)} {H1 : Hp} {l : List HP} {w : Str} (KN : Kinds R.toRt VE cls) (hx : R.xc = some (a, .ref (cls w), some dd)) (hd : H1 dd = some (.xd fs)) (hs : SL l H) (hl : (fun h => ∀ a o, H1 a = some o → h a = some o) ∈ l) (mw : w ∈ kindNames) (h : Q (.bl true) H) : rBi R.K R.xc .isinstance [.ref a, .ty "ValueError"] H Q := by
  rw [hx]; exact i_isE (.inr ⟨dd, fs, rfl, SL.ext hl hs _ _ hd⟩) (KN.exc w mw) (fun u r => r) (KN.val w mw) h
end
local macro_rules | `(tactic| walk_at "ik") => `(tactic|
  ((with_reducible refine' i_kind ?hk ?hx ?hd ?hs ?hl ?hw ?he ?hm ?hh); (case hk => assumption); (case hx => assumption); (case hd => assumption); (case hs => assumption); (case hl => walk_at "mem"); (case hw => assumption); (case he => exact rfl); (case hm => walk_at "mem")))
local macro_rules | `(tactic| walk_at "ek") => `(tactic| ((with_reducible refine' e_kind ?hk ?hm ?hh); (case hk => assumption); (case hm => walk_at "mem")))
local macro_rules | `(tactic| walk_at "et") => `(tactic| ((with_reducible refine' e_ty ?hg ?hh); (case hg => rfl)))
local macro_rules | `(tactic| walk_at "iv") => `(tactic| ((with_reducible refine' i_val ?hk ?hx ?hd ?hs ?hl ?hw ?hh); (case hk => assumption); (case hx => assumption); (case hd => assumption); (case hs => assumption); (case hl => walk_at "mem"); (case hw => assumption)))
local macro_rules | `(tactic| walk_at "go3") => `(tactic| repeat (first | walk_at "go1" | walk_at "go2" | walk_at "ek" | walk_at "et" | walk_at "ik" | walk_at "iv"))
/-- a refusal comes: told tells its name -/
def Refuses (cls : Str → Addr) (Q : VK) : XK := fun c d H => ∃ w ∈ kindNames, w ≠ "BadText" ∧ c = .ref (cls w) ∧ (∃ dd fs, d = some dd ∧ H dd = some (.xd fs)) ∧ ∀ p H', (∀ a o, H a = some o → H' a = some o) → H' p = some (.tup [.str w, .int 0]) → Q (.ref p) H'
def spTold (R : Rt) (k : Nat) (cls : Str → Addr) : Sp := fun vs H Q _ => ∃ f G sp, vs = [.ref f] ∧ G H ∧ LamOk R k f G sp ∧ ∀ E : XK, (∀ c d H', Refuses cls Q c d H' → E c d H') → sp [] H Q E
def kinds (w : Str) : List V := [.bl (decide (w = "BadNumber")), .bl (decide (w = "BadSizes")), .bl (decide (w = "BadText")), .bl (decide (w = "BadVolume"))] ++ [.bl (decide (w = "Full")), .bl (decide (w = "Lost")), .bl (decide (w = "NoBlock")), .bl (decide (w = "NoDisk"))] ++ [.bl (decide (w = "NoVolume")), .bl (decide (w = "Stopped"))]
def wordsV : List V := [.str "BadNumber", .str "BadSizes", .str "BadText", .str "BadVolume", .str "Full", .str "Lost", .str "NoBlock", .str "NoDisk", .str "NoVolume"] ++ [.str "Stopped"]
theorem kinds_count : ∀ w ∈ kindNames, ((kinds w).countP fun z => eqV z (.bl true)) = 1 := by decide +kernel
theorem kinds_flat (w : Str) : (kinds w).all flatV = true := rfl
theorem kinds_at : ∀ w ∈ kindNames, ∃ j ∈ List.range 10, (kinds w)[j]? = some (.bl true) ∧ (∀ m ∈ List.range j, (kinds w)[m]? = some (.bl false)) ∧ wordsV[j]? = some (.str w) := by decide +kernel
theorem w_told {R : Rx} {k : Nat} {VE : Addr} {cls : Str → Addr} {vs : List V} {H : Hp} {Q : VK} {X : XK} (KN : Kinds R.toRt VE cls) (h : spTold R.toRt k cls vs H Q X) :
    wSs R k b_told (fun cls d _ H' => X cls d H') { nx := fun _ H' => Q .non H', rt := Q } (L2.start N_told vs) H := by
  obtain ⟨f, G, sp, rfl, hG, hf, hs⟩ := h
  show wSs R k b_told _ _ [some (.ref f), none, none, none, none] H
  unfold b_told
  refine q_try (.inl KN.ve) ?_
  refine q_ret ⟨f, G, sp, rfl, hG, hf, hs _ fun c d H1 he => ?_⟩
  obtain ⟨w, mw, nb, rfl, ⟨dd, fs, rfl, hd⟩, hq⟩ := he
  refine ⟨true, KN.exm w mw, fun _ a _ => ?_, fun z => by cases z⟩
  have x1 : SL [fun h => ∀ a o, H1 a = some o → h a = some o] H1 := ⟨H1, fun _ => none, Sub.refl _, (fun _ _ e => by cases e), (fun _ _ _ _ e => by cases e), fun _ _ e => e, trivial⟩
  clear hs hG hf
  show wSs { R.toRt with T := R.T, M := R.M, xc := some (a, .ref (cls w), some dd) } k _ W0 _ [some (.ref f), some (.ref a), none, none, none] H1
  generalize hRR : ({ R.toRt with T := R.T, M := R.M, xc := some (a, .ref (cls w), some dd) } : Rx) = RR
  have KN' : Kinds RR.toRt VE cls := by subst hRR; exact KN
  have hx : RR.xc = some (a, .ref (cls w), some dd) := by subst hRR; rfl
  walk_at "go3"
  rename_i q1 H2 x2 q2 H3 x3
  refine b_cat (SL.get (by walk_at "mem") x3) (SL.get (by walk_at "mem") x3) (by simp only [List.length_cons, List.length_nil]; decide) (n_o x3 fun q3 H4 x4 => ?_)
  walk_at "go3"
  rename_i q4 H5 x5
  refine b_cat (SL.get (by walk_at "mem") x5) (SL.get (by walk_at "mem") x5) (by simp only [List.length_append, List.length_cons, List.length_nil]; decide) (n_o x5 fun q5 H6 x6 => ?_)
  walk_at "go3"
  have k6 : H6 q5 = some (.lst (kinds w)) := SL.get (.head _) x6
  refine x_bm .count (by decide) (ty_l (sq_l k6)) ?_
  walk_at "go3"
  refine ⟨q5, kinds w, .bl true, rfl, rfl, sq_l k6, rfl, kinds_flat w, ?_⟩
  rw [kinds_count w mw]
  walk_at "go3"
  refine x_df rfl ?_
  walk_at "go3"
  refine x_df rfl ?_
  walk_at "go3"
  rename_i q7 H7 x7 q8 H8 x8
  refine b_cat (SL.get (by walk_at "mem") x8) (SL.get (by walk_at "mem") x8) (by decide) (n_o x8 fun q9 H9 x9 => ?_)
  walk_at "go3"
  have k9 : H9 q5 = some (.lst (kinds w)) := SL.get (.tail _ (.tail _ (.tail _ (.head _)))) x9
  have w9 : H9 q9 = some (.lst wordsV) := SL.get (.head _) x9
  obtain ⟨j, _, hj, hlt, hw⟩ := kinds_at w mw
  refine x_bm .index (by decide) (ty_l (sq_l k9)) ?_
  walk_at "go3"
  refine .inl ⟨q5, kinds w, .bl true, j, .bl true, rfl, rfl, sq_l k9, rfl, kinds_flat w, hj, rfl, fun m z' hm hz => ?_, ?_⟩
  · rw [hlt m (List.mem_range.mpr hm)] at hz
    cases hz
    rfl
  refine s_lst (sq_l w9) hw ?_
  walk_at "go3"
  refine x_df (decide_eq_false nb) ?_
  walk_at "go3"
  rename_i p H' x'
  exact hq p H' (SL.ext (by walk_at "mem") x') (SL.get (.head _) x')
theorem fn_told {R : Rt} {st : Stmt} {qual : Str} {f : Addr} {fd : FuncData} {VE : Addr} {cls : Str → Addr} {k : Nat} (F : Fun R.K "_law_told" qual st f fd) (KN : Kinds R VE cls) (blt : ∀ x ∈ bltNames, R.mg x = none)
    (S : scopeB N_told ["_law_work"] (defScope st) = true) (hc : cSs N_told 60 .no (defScope st) (defBody st) = some b_told) : FnOk R.P R.w R.K R.mg R.base (L2.CX R.P R.w) (k + 1) f fd ["_law_work"] (spTold R k cls) := by
  refine fn_wp F S hc blt (fun vs H Q E h => ?_) fun vs H Q E h => ?_
  · obtain ⟨f, _, _, rfl, _⟩ := h
    rfl
  · exact w_told (R := ⟨R, [], fun _ _ _ => False, none⟩) KN h
end Zw

set_option Elab.async false
set_option linter.all false
set_option maxRecDepth 100000
set_option maxHeartbeats 4000000
namespace Zw
open PySem PySem.Spec PyProof.Rows L2
/-! ## the program's defs -/
local macro_rules | `(tactic| walk_at "mem") => `(tactic| (first | exact List.Mem.head _ | (apply List.Mem.tail; walk_at "mem")))
local macro_rules | `(tactic| walk_at "rp") => `(tactic| (first | exact Rp.hd | (apply Rp.tl; walk_at "rp")))
local macro_rules | `(tactic| walk_at "pk") => `(tactic| (first | exact Pk.hd | (apply Pk.tl; walk_at "pk")))
local macro_rules | `(tactic| walk_at "go1") => `(tactic| with_reducible (first
  | refine q_set ?_ | refine q_exp ?_ | refine q_doc ?_ | refine q_pass ?_ | refine q_ret ?_ | refine q_retN ?_ | refine q_brk ?_ | refine q_cont ?_ | refine q_if ?_ | refine q_par ?_ | refine q_setFld ?_ | refine q_setSub ?_ | refine q_for ?_
  | refine e_int ?_ | refine e_str ?_ | refine e_bl ?_ | refine e_non ?_ | refine e_bin ?_ | refine e_neg ?_ | refine e_nt ?_ | refine e_cmp ?_ | refine e_chain ?_ | refine e_and ?_ | refine e_or ?_ | refine e_ife ?_ | refine e_fld ?_ | refine e_sub ?_ | refine e_tup ?_ | refine e_lst ?_ | refine e_bi ?_ | refine e_meth ?_
  | refine es_nil ?_ | refine es_cons ?_ | refine t_yes ?_ | refine t_nt ?_ | refine t_and ?_ | refine t_or ?_ | refine t_cmp ?_ | refine t_val ?_ | refine i_seq ?_ | refine i_rng ?_
  | refine x_bl ?_ | refine x_in ?_ | refine tr_bl ?_ | refine tr_int ?_ | refine tr_non ?_
  | refine b_add ?_ | refine b_sub ?_ | refine c_lt ?_ | refine c_le ?_ | refine c_gt ?_ | refine c_ge ?_ | refine c_is ?_ | refine c_isnt ?_ | refine i_intB ?_ | refine c_eqI ?_ | refine c_neI ?_ | refine c_eqB ?_ | refine c_neB ?_ | refine c_eqS ?_ | refine q_nil ?_ | refine x_itt ?_ | refine x_iff ?_))
local macro_rules | `(tactic| walk_at "go2") => `(tactic| (first
  | ((with_reducible refine' e_var ?hg ?hh); (case hg => rfl))
  | ((with_reducible refine' s_0 ?hx ?hm ?hg ?hh); (case hx => assumption); (case hm => walk_at "mem"); (case hg => rfl))
  | ((with_reducible refine' s_1 ?hx ?hm ?hg ?hh); (case hx => assumption); (case hm => walk_at "mem"); (case hg => rfl))
  | ((with_reducible refine' s_2 ?hx ?hm ?hg ?hh); (case hx => assumption); (case hm => walk_at "mem"); (case hg => rfl))
  | ((with_reducible refine' p_0 ?hx ?hr ?hb ?hh); (case hx => assumption); (case hr => walk_at "rp"); (case hb => first | (simp; done) | decide); intros)
  | ((with_reducible refine' p_1 ?hx ?hr ?hb ?hh); (case hx => assumption); (case hr => walk_at "rp"); (case hb => first | (simp; done) | decide); intros)
  | ((with_reducible refine' n_lst ?hx ?hb ?hh); (case hx => assumption); (case hb => first | decide | (simp only [List.length_cons, List.length_nil]; decide)); intros)
  | ((with_reducible refine' n_tup ?hx ?hb ?hh); (case hx => assumption); (case hb => first | decide | (simp only [List.length_cons, List.length_nil]; decide)); intros)))
local macro_rules | `(tactic| walk_at "go") => `(tactic| repeat (first | walk_at "go1" | walk_at "go2"))
local macro_rules | `(tactic| walk_at "go2") => `(tactic| (first
  | ((with_reducible refine' e_ty ?hg ?hh); (case hg => rfl))
  | ((with_reducible refine' isi_dp ok_bl ?hx ?hh); (case hx => assumption))
  | ((with_reducible refine' isi_dp ok_int ?hx ?hh); (case hx => assumption))
  | ((with_reducible refine' isi_dp ok_str ?hx ?hh); (case hx => assumption))
  | ((with_reducible refine' isi_dp ok_tup ?hx ?hh); (case hx => assumption))
  | ((with_reducible refine' isi_dp ok_lst ?hx ?hh); (case hx => assumption))
  | ((with_reducible refine' x_dt ?hc ?hh); (case hc => rfl))
  | ((with_reducible refine' x_df ?hc ?hh); (case hc => rfl))))
def N_is_number : List Str := ["thing", "least", "most"]
def b_is_number : Ss := (.cons (.ret (.and2 (.callB .isinstance (.cons (.var 0) (.cons (.bltn "int") .nil))) (.and2 (.nt (.callB .isinstance (.cons (.var 0) (.cons (.bltn "bool") .nil)))) (.chain .LtE .LtE (.var 1) (.var 0) (.var 2)))))
  .nil)

def isNum (d : PyData) (lo hi : Int) : Bool := match d with
  | .int i => decide (lo ≤ i) && decide (i ≤ hi)
  | _ => false
def spIsNum (K : PySem.W.Frag) : Sp := fun vs H Q _ => ∃ x d lo hi, vs = [x, .int lo, .int hi] ∧ Dp K H x d ∧ Q (.bl (isNum d lo hi)) H
theorem w_is_number {R : Rx} {k : Nat} {vs : List V} {H : Hp} {Q : VK} {X : XK} (h : spIsNum R.K vs H Q X) : wSs R k b_is_number (fun cls d _ H' => X cls d H') { nx := fun _ H' => Q .non H', rt := Q } (L2.start N_is_number vs) H := by
  obtain ⟨x, d, lo, hi, rfl, hd, hq⟩ := h
  show wSs R k b_is_number _ _ [some x, some (.int lo), some (.int hi)] H
  unfold b_is_number
  have hd' := hd
  walk_at "go"
  cases hd
  case int i =>
    walk_at "go"
    refine x_ite (fun c => ?_) (fun c => ?_)
    · walk_at "go"
      have : isNum (.int i) lo hi = decide (i ≤ hi) := by
        show (decide (lo ≤ i) && decide (i ≤ hi)) = _
        rw [c]
        rfl
      rw [this] at hq
      exact hq
    · have : isNum (.int i) lo hi = false := by
        show (decide (lo ≤ i) && decide (i ≤ hi)) = _
        rw [c]
        rfl
      rw [this] at hq
      exact hq
  all_goals walk_at "go"
  all_goals exact hq
theorem fn_is_number {R : Rt} {st : Stmt} {qual : Str} {f : Addr} {fd : FuncData} {k : Nat} (F : Fun R.K "is_number" qual st f fd) (blt : ∀ x ∈ bltNames, R.mg x = none)
    (S : scopeB N_is_number ["thing", "least", "most"] (defScope st) = true) (hc : cSs N_is_number 60 .no (defScope st) (defBody st) = some b_is_number) : FnOk R.P R.w R.K R.mg R.base (L2.CX R.P R.w) (k + 1) f fd ["thing", "least", "most"] (spIsNum R.K) := by
  refine fn_wp F S hc blt (fun vs H Q E h => ?_) fun vs H Q E h => ?_
  · obtain ⟨x, d, lo, hi, rfl, _⟩ := h
    rfl
  · exact w_is_number (R := ⟨R, [], fun _ _ _ => False, none⟩) h
def N_check_pieces : List Str := ["pieces"]
def b_check_pieces : Ss := (.cons (.ifs (.nt (.val (.call "is_number" (.cons (.var 0) (.cons (.int 1) (.cons (.glob "MOST_PIECES") .nil))))))
  (.cons (.raise "BadSizes")
  .nil)
  .nil)
  .nil)

/-- a def or class of the module that keeps sp up to level k -/
structure Has (R : Rt) (k : Nat) (x : Str) (f : Addr) (sp : Sp) : Prop where
  mg : R.mg x = some (.ref f)
  kp : PySem.W.keepIn R.K (.ref f) = true
  ok : CallOk R k f sp
/-- a class of refusals that know their kind -/
structure HasErr (R : Rt) (x : Str) (C : Addr) : Prop where
  mg : R.mg x = some (.ref C)
  ok : ErrOk R.P R.w R.K R.mg R.base C x
/-- a refusal is let out: its dict is new -/
def Rsd (E : XK) (C : Addr) (nm : Str) (H : Hp) : Prop := ∀ d, H d = none → E (.ref C) (some d) (upd H d (.xd [("kind", .str nm)]))
theorem q_raiseR {R : Rx} {k : Nat} {W : WX} {D : Ends} {σ : L2.St} {H : Hp} {r : Ss} {x : Str} {C : Addr} (N : HasErr R.toRt x C) (h2 : 2 ≤ k) (h : Rsd (fun c d H' => W c d σ H') C x H) : wSs R k (.cons (.raise x) r) W D σ H := .inr ⟨C, x, N.mg, N.ok, h2, h⟩
def HasInt (R : Rt) (x : Str) (i : Int) : Prop := ∃ t, R.mg x = some (.int i t)
theorem e_gint {R : Rx} {k : Nat} {W : WX} {σ : L2.St} {H : Hp} {Q : VK} {x : Str} {i : Int} (h1 : HasInt R.toRt x i) (h : Q (.int i) H) : wE R k (.glob x) W σ H Q := by
  obtain ⟨t, e⟩ := h1
  exact e_glob (v := .int i) e ⟨t, rfl⟩ h
def spCheckPieces (K : PySem.W.Frag) (C : Addr) : Sp := fun vs H Q E => ∃ x d, vs = [x] ∧ Dp K H x d ∧ (isNum d 1 12 = true → Q .non H) ∧ (isNum d 1 12 = false → Rsd E C "BadSizes" H)
theorem w_check_pieces {R : Rx} {k : Nat} {C f : Addr} {vs : List V} {H : Hp} {Q : VK} {X : XK} (N1 : Has R.toRt k "is_number" f (spIsNum R.K)) (N2 : HasInt R.toRt "MOST_PIECES" 12) (N3 : HasErr R.toRt "BadSizes" C) (hk : 2 ≤ k) (h : spCheckPieces R.K C vs H Q X) :
    wSs R k b_check_pieces (fun cls d _ H' => X cls d H') { nx := fun _ H' => Q .non H', rt := Q } (L2.start N_check_pieces vs) H := by
  obtain ⟨x, d, rfl, hd, h1, h2⟩ := h
  show wSs R k b_check_pieces _ _ [some x] H
  unfold b_check_pieces
  walk_at "go"
  refine e_call N1.mg N1.kp ?_
  walk_at "go"
  refine e_gint N2 ?_
  walk_at "go"
  refine x_sp N1.ok ⟨x, d, 1, 12, rfl, hd, ?_⟩
  walk_at "go"
  refine x_ite (fun c => ?_) (fun c => ?_)
  · exact q_raiseR N3 hk (h2 (by simpa using c))
  · walk_at "go"
    exact h1 (by simpa using c)
end Zw

set_option Elab.async false
set_option linter.all false
set_option maxRecDepth 100000
set_option maxHeartbeats 4000000
namespace Zw
open PySem PySem.Spec PyProof.Rows L2
/-! ## the bench -/
local macro_rules | `(tactic| walk_at "mem") => `(tactic| (first | exact List.Mem.head _ | (apply List.Mem.tail; walk_at "mem")))
local macro_rules | `(tactic| walk_at "rp") => `(tactic| (first | exact Rp.hd | (apply Rp.tl; walk_at "rp")))
local macro_rules | `(tactic| walk_at "pk") => `(tactic| (first | exact Pk.hd | (apply Pk.tl; walk_at "pk")))
local macro_rules | `(tactic| walk_at "go1") => `(tactic| with_reducible (first
  | refine q_set ?_ | refine q_exp ?_ | refine q_doc ?_ | refine q_pass ?_ | refine q_ret ?_ | refine q_retN ?_ | refine q_brk ?_ | refine q_cont ?_ | refine q_if ?_ | refine q_par ?_ | refine q_setFld ?_ | refine q_setSub ?_ | refine q_for ?_
  | refine e_int ?_ | refine e_str ?_ | refine e_bl ?_ | refine e_non ?_ | refine e_bin ?_ | refine e_neg ?_ | refine e_nt ?_ | refine e_cmp ?_ | refine e_chain ?_ | refine e_and ?_ | refine e_or ?_ | refine e_ife ?_ | refine e_fld ?_ | refine e_sub ?_ | refine e_tup ?_ | refine e_lst ?_ | refine e_bi ?_ | refine e_meth ?_
  | refine es_nil ?_ | refine es_cons ?_ | refine t_yes ?_ | refine t_nt ?_ | refine t_and ?_ | refine t_or ?_ | refine t_cmp ?_ | refine t_val ?_ | refine i_seq ?_ | refine i_rng ?_
  | refine x_bl ?_ | refine x_in ?_ | refine tr_bl ?_ | refine tr_int ?_ | refine tr_non ?_
  | refine b_add ?_ | refine b_sub ?_ | refine c_lt ?_ | refine c_le ?_ | refine c_gt ?_ | refine c_ge ?_ | refine c_is ?_ | refine c_isnt ?_ | refine i_intB ?_ | refine c_eqI ?_ | refine c_neI ?_ | refine c_eqB ?_ | refine c_neB ?_ | refine c_eqS ?_ | refine q_nil ?_ | refine x_itt ?_ | refine x_iff ?_))
local macro_rules | `(tactic| walk_at "go2") => `(tactic| (first
  | ((with_reducible refine' e_var ?hg ?hh); (case hg => rfl))
  | ((with_reducible refine' s_0 ?hx ?hm ?hg ?hh); (case hx => assumption); (case hm => walk_at "mem"); (case hg => rfl))
  | ((with_reducible refine' s_1 ?hx ?hm ?hg ?hh); (case hx => assumption); (case hm => walk_at "mem"); (case hg => rfl))
  | ((with_reducible refine' s_2 ?hx ?hm ?hg ?hh); (case hx => assumption); (case hm => walk_at "mem"); (case hg => rfl))
  | ((with_reducible refine' p_0 ?hx ?hr ?hb ?hh); (case hx => assumption); (case hr => walk_at "rp"); (case hb => first | (simp; done) | decide); intros)
  | ((with_reducible refine' p_1 ?hx ?hr ?hb ?hh); (case hx => assumption); (case hr => walk_at "rp"); (case hb => first | (simp; done) | decide); intros)
  | ((with_reducible refine' n_lst ?hx ?hb ?hh); (case hx => assumption); (case hb => first | decide | (simp only [List.length_cons, List.length_nil]; decide)); intros)
  | ((with_reducible refine' n_tup ?hx ?hb ?hh); (case hx => assumption); (case hb => first | decide | (simp only [List.length_cons, List.length_nil]; decide)); intros)))
local macro_rules | `(tactic| walk_at "go") => `(tactic| repeat (first | walk_at "go1" | walk_at "go2"))
local macro_rules | `(tactic| walk_at "go2") => `(tactic| (first
  | ((with_reducible refine' e_ty ?hg ?hh); (case hg => rfl))
  | ((with_reducible refine' isi_dp ok_bl ?hx ?hh); (case hx => assumption))
  | ((with_reducible refine' isi_dp ok_int ?hx ?hh); (case hx => assumption))
  | ((with_reducible refine' isi_dp ok_str ?hx ?hh); (case hx => assumption))
  | ((with_reducible refine' isi_dp ok_tup ?hx ?hh); (case hx => assumption))
  | ((with_reducible refine' isi_dp ok_lst ?hx ?hh); (case hx => assumption))
  | ((with_reducible refine' x_dt ?hc ?hh); (case hc => rfl))
  | ((with_reducible refine' x_df ?hc ?hh); (case hc => rfl))))
def N_Bench_check_going : List Str := ["self"]
def b_Bench_check_going : Ss := (.cons (.ifs (.val (.fld (.var 0) "_stopped"))
  (.cons (.raise "Stopped")
  .nil)
  .nil)
  .nil)
def N_Bench_begin_deed : List Str := ["self"]
def b_Bench_begin_deed : Ss := (.cons (.ifs (.cmp (.cmp .Eq (.fld (.var 0) "_left") (.int 0)))
  (.cons (.setFld (.var 0) "_stopped" (.bl true))
  (.cons (.raise "Stopped")
  .nil))
  .nil)
  (.cons (.ifs (.cmp (.cmp .IsNot (.fld (.var 0) "_left") .non))
  (.cons (.augFld (.var 0) "_left" .Sub (.int 1))
  .nil)
  .nil)
  (.cons (.augFld (.var 0) "_done" .Add (.int 1))
  .nil)))

structure BenchC (K : PySem.W.Frag) (C : Addr) : Prop where
  cls : Cls K C
  na : ∀ f ∈ (["_places", "_done", "_left", "_stopped"] : List Str), NoAttr K C f
/-- a bench's object -/
abbrev benchO (C dx p : Addr) (n : Int) (L : V) (s : Bool) : HO := .ins C dx [("_places", .ref p), ("_done", .int n), ("_left", L), ("_stopped", .bl s)]
theorem q_augFld {R : Rx} {k : Nat} {W : WX} {D : Ends} {σ : L2.St} {H : Hp} {r : Ss} {a e : E} {f : Str} {op : Operator} (h : sFldAug R.K (fun σ H S => wE R k a W σ H S) (fun σ H S => wE R k e W σ H S) (rAugF op) f { D with nx := fun σ' H' => wSs R k r W D σ' H' } σ H) : wSs R k (.cons (.augFld a f op e) r) W D σ H := h
section
variable {R : Rx} {k : Nat} {W : WX} {D : Ends} {σ : L2.St} {H : Hp} {r : Ss} {iv : Nat} {x C dx : Addr} {fs : List (Str × V)} {f : Str} {i j : Int} {l l' : List HP}
/-- o.f += a number -/
theorem q_augA (hv : σ[iv]? = some (some (.ref x))) (hs : SL l H) (c : Cls R.K C) (n : NoAttr R.K C f) (hr : Rp (pt x (.ins C dx fs)) (pt x (.ins C dx (putF f (.int (i + j)) fs))) l l') (g : fs.lookup f = some (.int i)) (b : fs.length < 1000) (h : ∀ H', SL l' H' → wSs R k r W D σ H') :
    wSs R k (.cons (.augFld (.var iv) f .Add (.int j)) r) W D σ H := q_augFld ⟨.ref x, hv, x, C, dx, fs, .int i, rfl, SL.get hr.mem hs, c, n, g, i, j, rfl, rfl, dx, fs, SL.get hr.mem hs, b, h _ (hs.wr hr rfl)⟩
theorem q_augS (hv : σ[iv]? = some (some (.ref x))) (hs : SL l H) (c : Cls R.K C) (n : NoAttr R.K C f) (hr : Rp (pt x (.ins C dx fs)) (pt x (.ins C dx (putF f (.int (i - j)) fs))) l l') (g : fs.lookup f = some (.int i)) (b : fs.length < 1000) (h : ∀ H', SL l' H' → wSs R k r W D σ H') :
    wSs R k (.cons (.augFld (.var iv) f .Sub (.int j)) r) W D σ H := q_augFld ⟨.ref x, hv, x, C, dx, fs, .int i, rfl, SL.get hr.mem hs, c, n, g, i, j, rfl, rfl, dx, fs, SL.get hr.mem hs, b, h _ (hs.wr hr rfl)⟩
end
def spGoing (C St : Addr) : Sp := fun vs H Q E => ∃ x dx p n L s, vs = [.ref x] ∧ H x = some (benchO C dx p n L s) ∧ (s = false → Q .non H) ∧ (s = true → Rsd E St "Stopped" H)
theorem w_going {R : Rx} {k : Nat} {C St : Addr} {vs : List V} {H : Hp} {Q : VK} {X : XK} (B : BenchC R.K C) (N1 : HasErr R.toRt "Stopped" St) (hk : 2 ≤ k) (h : spGoing C St vs H Q X) :
    wSs R k b_Bench_check_going (fun cls d _ H' => X cls d H') { nx := fun _ H' => Q .non H', rt := Q } (L2.start N_Bench_check_going vs) H := by
  obtain ⟨x, dx, p, n, L, s, rfl, hb, h1, h2⟩ := h
  show wSs R k b_Bench_check_going _ _ [some (.ref x)] H
  unfold b_Bench_check_going
  walk_at "go"
  refine f_ins hb B.cls (B.na _ (by decide +kernel)) rfl ?_
  walk_at "go"
  cases s
  · walk_at "go"
    exact h1 rfl
  · walk_at "go"
    exact q_raiseR N1 hk (h2 rfl)

/-- a deed begins: it is counted, or the bench stops -/
def spBegin (C St : Addr) : Sp := fun vs H Q E => ∃ x dx p n L l, vs = [.ref x] ∧ SL (pt x (benchO C dx p n L false) :: l) H ∧
  ((L = .non ∧ ∀ H', SL (pt x (benchO C dx p (n + 1) .non false) :: l) H' → Q .non H') ∨
   (∃ m : Int, L = .int m ∧ m ≠ 0 ∧ ∀ H', SL (pt x (benchO C dx p (n + 1) (.int (m - 1)) false) :: l) H' → Q .non H') ∨
   (L = .int 0 ∧ ∀ H', SL (pt x (benchO C dx p n (.int 0) true) :: l) H' → Rsd E St "Stopped" H'))
theorem w_begin {R : Rx} {k : Nat} {C St : Addr} {vs : List V} {H : Hp} {Q : VK} {X : XK} (B : BenchC R.K C) (N1 : HasErr R.toRt "Stopped" St) (hk : 2 ≤ k) (h : spBegin C St vs H Q X) :
    wSs R k b_Bench_begin_deed (fun cls d _ H' => X cls d H') { nx := fun _ H' => Q .non H', rt := Q } (L2.start N_Bench_begin_deed vs) H := by
  obtain ⟨x, dx, p, n, L, l, rfl, hs, h⟩ := h
  show wSs R k b_Bench_begin_deed _ _ [some (.ref x)] H
  have n1 : NoAttr R.K C "_left" := B.na _ (by decide +kernel)
  have n2 : NoAttr R.K C "_stopped" := B.na _ (by decide +kernel)
  have n3 : NoAttr R.K C "_done" := B.na _ (by decide +kernel)
  unfold b_Bench_begin_deed
  rcases h with ⟨rfl, h⟩ | ⟨m, rfl, hm, h⟩ | ⟨rfl, h⟩
  · walk_at "go"
    refine fl_at hs (.head _) B.cls n1 rfl ?_
    walk_at "go"
    refine c_eq rfl ?_
    walk_at "go"
    refine fl_at hs (.head _) B.cls n1 rfl ?_
    walk_at "go"
    refine q_augA rfl hs B.cls n3 .hd rfl (show (4 : Nat) < 1000 by decide) fun H1 x1 => ?_
    walk_at "go"
    exact h _ x1
  · walk_at "go"
    refine fl_at hs (.head _) B.cls n1 rfl ?_
    walk_at "go"
    refine x_df (decide_eq_false hm) ?_
    walk_at "go"
    refine fl_at hs (.head _) B.cls n1 rfl ?_
    walk_at "go"
    refine q_augS rfl hs B.cls n1 .hd rfl (show (4 : Nat) < 1000 by decide) fun H1 x1 => ?_
    walk_at "go"
    refine q_augA rfl x1 B.cls n3 .hd rfl (show (4 : Nat) < 1000 by decide) fun H2 x2 => ?_
    walk_at "go"
    exact h _ x2
  · walk_at "go"
    refine fl_at hs (.head _) B.cls n1 rfl ?_
    walk_at "go"
    refine p_fld (fs := [("_places", .ref p), ("_done", .int n), ("_left", .int 0), ("_stopped", .bl false)]) hs B.cls n2 (show (4 : Nat) < 1000 by decide) .hd fun H1 x1 => ?_
    exact q_raiseR N1 hk (h _ x1)
def N_Bench_is_place : List Str := ["self", "disk"]
def b_Bench_is_place : Ss := (.cons (.ret (.call "is_number" (.cons (.var 1) (.cons (.int 0) (.cons (.bin .Sub (.callB .len (.cons (.fld (.var 0) "_places") .nil)) (.int 1)) .nil)))))
  .nil)
def N_Bench_found : List Str := ["self", "disk"]
def b_Bench_found : Ss := (.cons (.exp (.meth (.var 0) "_check_going" [] .nil))
  (.cons (.ifs (.or2 (.nt (.val (.meth (.var 0) "_is_place" [] (.cons (.var 1) .nil)))) (.cmp (.cmp .Is (.sub (.fld (.var 0) "_places") (.var 1)) .non)))
  (.cons (.raise "NoDisk")
  .nil)
  .nil)
  (.cons (.ret (.sub (.fld (.var 0) "_places") (.var 1)))
  .nil)))

/-- a method of the class at C that keeps sp up to level k -/
structure HasM (R : Rt) (k : Nat) (C : Addr) (m : Str) (g : Addr) (sp : Sp) : Prop where
  me : Meth R.K C m g
  ok : CallOk R k g sp
theorem bench_no {C dx p : Addr} {n : Int} {L : V} {s : Bool} {m : Str} (h : m ∉ (["_places", "_done", "_left", "_stopped"] : List Str)) : ([("_places", .ref p), ("_done", .int n), ("_left", L), ("_stopped", .bl s)] : List (Str × V)).lookup m = none := by
  simp only [List.mem_cons, not_or, List.not_mem_nil, not_false_eq_true, and_true] at h
  obtain ⟨h1, h2, h3, h4⟩ := h
  simp only [List.lookup]
  rw [beq_eq_false_iff_ne.mpr h1, beq_eq_false_iff_ne.mpr h2, beq_eq_false_iff_ne.mpr h3, beq_eq_false_iff_ne.mpr h4]
def spPlace (K : PySem.W.Frag) (C : Addr) : Sp := fun vs H Q _ => ∃ x dx p n L s xs v d, vs = [.ref x, v] ∧ H x = some (benchO C dx p n L s) ∧ H p = some (.lst xs) ∧ Dp K H v d ∧ Q (.bl (isNum d 0 ((xs.length : Int) - 1))) H
theorem w_place {R : Rx} {k : Nat} {C f : Addr} {vs : List V} {H : Hp} {Q : VK} {X : XK} (B : BenchC R.K C) (N1 : Has R.toRt k "is_number" f (spIsNum R.K)) (h : spPlace R.K C vs H Q X) :
    wSs R k b_Bench_is_place (fun cls d _ H' => X cls d H') { nx := fun _ H' => Q .non H', rt := Q } (L2.start N_Bench_is_place vs) H := by
  obtain ⟨x, dx, p, n, L, s, xs, v, d, rfl, hb, hp, hd, hq⟩ := h
  show wSs R k b_Bench_is_place _ _ [some (.ref x), some v] H
  unfold b_Bench_is_place
  walk_at "go"
  refine e_call N1.mg N1.kp ?_
  walk_at "go"
  refine f_ins hb B.cls (B.na _ (by decide +kernel)) rfl ?_
  walk_at "go"
  refine i_len (len_l (sq_l hp)) ?_
  walk_at "go"
  exact x_sp N1.ok ⟨v, d, 0, _, rfl, hd, hq⟩
/-- the disk at a place -/
def spFound (K : PySem.W.Frag) (C St Nd : Addr) : Sp := fun vs H Q E => ∃ x dx p n L s xs v d, vs = [.ref x, v] ∧ H x = some (benchO C dx p n L s) ∧ H p = some (.lst xs) ∧ Dp K H v d ∧
  (s = true → Rsd E St "Stopped" H) ∧ (s = false → isNum d 0 ((xs.length : Int) - 1) = false → Rsd E Nd "NoDisk" H) ∧
  (∀ i : Nat, s = false → d = .int (i : Nat) → xs[i]? = some .non → Rsd E Nd "NoDisk" H) ∧ (∀ (i : Nat) u, s = false → d = .int (i : Nat) → xs[i]? = some u → u ≠ .non → Q u H)
theorem w_found {R : Rx} {k : Nat} {C St Nd g1 g2 : Addr} {vs : List V} {H : Hp} {Q : VK} {X : XK} (hx : R.xc = none) (B : BenchC R.K C) (N1 : HasM R.toRt k C "_check_going" g1 (spGoing C St)) (N2 : HasM R.toRt k C "_is_place" g2 (spPlace R.K C)) (N3 : HasErr R.toRt "NoDisk" Nd) (hk : 2 ≤ k) (h : spFound R.K C St Nd vs H Q X) :
    wSs R k b_Bench_found (fun cls d _ H' => X cls d H') { nx := fun _ H' => Q .non H', rt := Q } (L2.start N_Bench_found vs) H := by
  obtain ⟨x, dx, p, n, L, s, xs, v, d, rfl, hb, hp, hd, h1, h2, h3, h4⟩ := h
  have n1 : NoAttr R.K C "_places" := B.na _ (by decide +kernel)
  show wSs R k b_Bench_found _ _ [some (.ref x), some v] H
  unfold b_Bench_found
  walk_at "go"
  refine x_own hx hb B.cls N1.me (bench_no (C := C) (dx := dx) (by decide +kernel)) ?_
  walk_at "go"
  refine x_sp N1.ok ⟨x, dx, p, n, L, s, rfl, hb, fun e => ?_, fun e => h1 e⟩
  subst e
  walk_at "go"
  refine x_own hx hb B.cls N2.me (bench_no (C := C) (dx := dx) (by decide +kernel)) ?_
  walk_at "go"
  refine x_sp N2.ok ⟨x, dx, p, n, L, false, xs, v, d, rfl, hb, hp, hd, ?_⟩
  walk_at "go"
  refine x_ite (fun c => ?_) (fun c => ?_)
  · walk_at "go"
    exact q_raiseR N3 hk (h2 rfl (by simpa using c))
  · have cc : isNum d 0 ((xs.length : Int) - 1) = true := by simpa using c
    clear c
    unfold isNum at cc
    cases hd
    all_goals first | (cases cc; done) | skip
    rename_i i
    simp only [Bool.and_eq_true, decide_eq_true_eq] at cc
    obtain ⟨j, rfl⟩ : ∃ j : Nat, i = (j : Int) := ⟨i.toNat, by omega⟩
    have hj : j < xs.length := by omega
    walk_at "go"
    refine f_ins hb B.cls n1 rfl ?_
    walk_at "go"
    refine s_lst (sq_l hp) (List.getElem?_eq_getElem hj) ?_
    walk_at "go"
    refine x_ite (fun c2 => ?_) (fun c2 => ?_)
    · walk_at "go"
      exact q_raiseR N3 hk (h3 j rfl rfl (by rw [List.getElem?_eq_getElem hj]; simpa using c2))
    · walk_at "go"
      refine f_ins hb B.cls n1 rfl ?_
      walk_at "go"
      refine s_lst (sq_l hp) (List.getElem?_eq_getElem hj) ?_
      exact h4 j _ rfl rfl (List.getElem?_eq_getElem hj) (by simpa using c2)
end Zw

set_option Elab.async false
set_option linter.all false
set_option maxRecDepth 100000
set_option maxHeartbeats 4000000
namespace Zw
open PySem PySem.Spec PyProof.Rows L2
/-! ## comprehensions -/
section
variable {R : Rx} {k : Nat} {W : WX} {σ : L2.St} {H : Hp} {Q : VK}
/-- behind what is walked: a comprehension of one name, without a test -/
def CompG (R : Rx) (k : Nat) (σ : L2.St) (i : Nat) (elt : E) (Q : VK) (J : It) (H1 : Hp) : Prop := ∀ D, H1 D = none → ∃ W : Nat → Nat → Hp → Prop, (∃ m, W 0 m (upd H1 D (.lst []))) ∧ ∀ t m H, W t m H →
  (J.stop t H ∧ Q (.ref D) H) ∨ (J.go t H ∧ ∃ Nx : Hp → Prop, (∀ H', Nx H' → ∃ m', m' < m ∧ W (t + 1) m' H') ∧ ∀ x H', J.yld t H x H' → wipe ((wipe σ [i]).set i (some x)) [i] = wipe σ [i] ∧
    wE R k elt W0 ((wipe σ [i]).set i (some x)) H' fun y H4 => ∃ acc, H4 D = some (.lst acc) ∧ acc.length < sizeLine ∧ Nx (upd H4 D (.lst (acc ++ [y]))))
theorem e_comp {elt : E} {i : Nat} {it : I} (h : wI R k it W0 σ H fun J H1 => CompG R k σ i elt Q J H1) : wE R k (.comp elt (.nm i) it .yes [i]) W σ H Q := .inl h
/-- .. of two names -/
def CompP (R : Rx) (k : Nat) (σ : L2.St) (i j : Nat) (elt : E) (Q : VK) (J : It) (H1 : Hp) : Prop := ∀ D, H1 D = none → ∃ W : Nat → Nat → Hp → Prop, (∃ m, W 0 m (upd H1 D (.lst []))) ∧ ∀ t m H, W t m H →
  (J.stop t H ∧ Q (.ref D) H) ∨ (J.go t H ∧ ∃ Nx : Hp → Prop, (∀ H', Nx H' → ∃ m', m' < m ∧ W (t + 1) m' H') ∧ ∀ x H', J.yld t H x H' → rUnp R.K [i, j] x (wipe σ [i, j]) H' fun σ2 H2 => wipe σ2 [i, j] = wipe σ [i, j] ∧
    wE R k elt W0 σ2 H2 fun y H4 => ∃ acc, H4 D = some (.lst acc) ∧ acc.length < sizeLine ∧ Nx (upd H4 D (.lst (acc ++ [y]))))
theorem e_compP {elt : E} {i j : Nat} {it : I} (h : wI R k it W0 σ H fun J H1 => CompP R k σ i j elt Q J H1) : wE R k (.comp elt (.tp [i, j]) it .yes [i, j]) W σ H Q := .inl h
theorem wipe1 (σ : L2.St) (i : Nat) (x : V) : wipe ((wipe σ [i]).set i (some x)) [i] = wipe σ [i] := by
  show ((σ.set i none).set i (some x)).set i none = σ.set i none
  rw [List.set_set, List.set_set]
/-- an element's end: y is put behind acc -/
def CompN (D t : Nat) (L : Nat → List V → List HP) : VK := fun y H4 => ∃ acc, H4 D = some (.lst acc) ∧ acc.length < sizeLine ∧ ∃ acc', acc'.length = t + 1 ∧ SL (pt D (.lst acc') :: L (t + 1) acc') (upd H4 D (.lst (acc ++ [y])))
theorem CompN.of {D t : Nat} {L : Nat → List V → List HP} {acc : List V} {y : V} {H4 : Hp} (ha : acc.length = t) (b : t < sizeLine) (x : SL (pt D (.lst acc) :: L (t + 1) (acc ++ [y])) H4) : CompN D t L y H4 :=
  ⟨acc, SL.get (.head _) x, by omega, acc ++ [y], by simp [ha], x.wr .hd rfl⟩
/-- n turns; L t acc: what stands behind t of them, beside the new list -/
theorem k_gen {elt : E} {i n : Nat} {J : It} (L : Nat → List V → List HP) (x : SL (L 0 []) H)
    (st : ∀ t acc D H, t < n → acc.length = t → SL (pt D (.lst acc) :: L t acc) H → J.go t H ∧ ∀ v H', J.yld t H v H' → wE R k elt W0 ((wipe σ [i]).set i (some v)) H' (CompN D t L))
    (en : ∀ acc D H, acc.length = n → SL (pt D (.lst acc) :: L n acc) H → J.stop n H ∧ Q (.ref D) H) : CompG R k σ i elt Q J H := by
  intro D hD
  refine ⟨fun t m H => t + m = n ∧ ∃ acc, acc.length = t ∧ SL (pt D (.lst acc) :: L t acc) H, ⟨n, by omega, [], rfl, x.new _ hD⟩, fun t m H hw => ?_⟩
  obtain ⟨hm, acc, ha, hx⟩ := hw
  by_cases ht : t < n
  · obtain ⟨h1, h2⟩ := st t acc D H ht ha hx
    exact .inr ⟨h1, fun H' => ∃ acc, acc.length = t + 1 ∧ SL (pt D (.lst acc) :: L (t + 1) acc) H', fun H' hn => ⟨m - 1, by omega, by omega, hn⟩, fun v H' hy => ⟨wipe1 _ _ _, h2 v H' hy⟩⟩
  · have : t = n := by omega
    subst this
    exact .inl (en acc D H ha hx)
/-- over a list that stays as it is -/
theorem k_lst {elt : E} {i : Nat} {p : Addr} {xs : List V} {P : Prop} (L : Nat → List V → List HP) (x : SL (L 0 []) H) (sq : ∀ t acc H, SL (L t acc) H → SqL R.K H p xs)
    (st : ∀ t acc D H v, xs[t]? = some v → acc.length = t → SL (pt D (.lst acc) :: L t acc) H → wE R k elt W0 ((wipe σ [i]).set i (some v)) H (CompN D t L))
    (en : ∀ acc D H, acc.length = xs.length → SL (pt D (.lst acc) :: L xs.length acc) H → Q (.ref D) H) :
    (∃ q, V.ref p = .ref q ∧ (∃ xs, SqL R.K H q xs) ∧ CompG R k σ i elt Q (Itl R.K q) H) ∨ P := by
  refine .inl ⟨p, rfl, ⟨xs, sq _ _ _ x⟩, k_gen (n := xs.length) L x (fun t acc D H ht ha hx => ?_) fun acc D H ha hx => ?_⟩
  · have s1 := sq _ _ _ hx.tail
    refine ⟨⟨xs, xs[t], s1, List.getElem?_eq_getElem ht⟩, fun v H' hy => ?_⟩
    obtain ⟨rfl, hv⟩ := hy
    exact st t acc D _ v (hv xs s1) ha hx
  · exact ⟨⟨xs, sq _ _ _ hx.tail, Nat.le_refl _⟩, en acc D H ha hx⟩
/-- over a tuple -/
theorem k_tup {elt : E} {i : Nat} {p : Addr} {xs : List V} {P P' : Prop} (L : Nat → List V → List HP) (x : SL (L 0 []) H) (sq : ∀ t acc H, SL (L t acc) H → SqT R.K H p xs)
    (st : ∀ t acc D H v, xs[t]? = some v → acc.length = t → SL (pt D (.lst acc) :: L t acc) H → wE R k elt W0 ((wipe σ [i]).set i (some v)) H (CompN D t L))
    (en : ∀ acc D H, acc.length = xs.length → SL (pt D (.lst acc) :: L xs.length acc) H → Q (.ref D) H) :
    P' ∨ (∃ q, V.ref p = .ref q ∧ (∃ xs, SqT R.K H q xs) ∧ CompG R k σ i elt Q (Itt R.K q) H) ∨ P := by
  refine .inr (.inl ⟨p, rfl, ⟨xs, sq _ _ _ x⟩, k_gen (n := xs.length) L x (fun t acc D H ht ha hx => ?_) fun acc D H ha hx => ?_⟩)
  · have s1 := sq _ _ _ hx.tail
    refine ⟨⟨xs, xs[t], s1, List.getElem?_eq_getElem ht⟩, fun v H' hy => ?_⟩
    obtain ⟨rfl, hv⟩ := hy
    exact st t acc D _ v (hv xs s1) ha hx
  · exact ⟨⟨xs, sq _ _ _ hx.tail, Nat.le_refl _⟩, en acc D H ha hx⟩
/-- over a text -/
theorem k_str {elt : E} {i : Nat} {z : Str} {P1 P2 P3 : Prop} (L : Nat → List V → List HP) (x : SL (L 0 []) H)
    (st : ∀ t acc D H c, z.cps[t]? = some c → acc.length = t → SL (pt D (.lst acc) :: L t acc) H → wE R k elt W0 ((wipe σ [i]).set i (some (.str ⟨#[c]⟩))) H (CompN D t L))
    (en : ∀ acc D H, acc.length = z.cps.size → SL (pt D (.lst acc) :: L z.cps.size acc) H → Q (.ref D) H) :
    P1 ∨ P2 ∨ P3 ∨ (∃ y, V.str z = .str y ∧ CompG R k σ i elt Q (Its y) H) := by
  refine .inr (.inr (.inr ⟨z, rfl, k_gen (n := z.cps.size) L x (fun t acc D H ht ha hx => ?_) fun acc D H ha hx => ?_⟩))
  · refine ⟨ht, fun v H' hy => ?_⟩
    obtain ⟨rfl, c, hc, rfl⟩ := hy
    exact st t acc D _ c hc ha hx
  · exact ⟨Nat.le_refl _, en acc D H ha hx⟩
/-- over range(n) -/
theorem k_rng {elt : E} {i n : Nat} (L : Nat → List V → List HP) (b : n < 2 ^ 62) (x : SL (L 0 []) H)
    (st : ∀ t acc D H, t < n → acc.length = t → SL (pt D (.lst acc) :: L t acc) H → wE R k elt W0 ((wipe σ [i]).set i (some (.int (t : Nat)))) H (CompN D t L))
    (en : ∀ acc D H, acc.length = n → SL (pt D (.lst acc) :: L n acc) H → Q (.ref D) H) :
    ∃ j : Int, V.int (n : Nat) = .int j ∧ -(2 ^ 62) ≤ j ∧ j < 2 ^ 62 ∧ CompG R k σ i elt Q (Itr 0 j.toNat) H := by
  refine ⟨n, rfl, by omega, by omega, k_gen (n := n) L x (fun t acc D H ht ha hx => ?_) fun acc D H ha hx => ?_⟩
  · refine ⟨by show t < ((n : Int)).toNat; omega, fun v H' hy => ?_⟩
    obtain ⟨rfl, rfl⟩ := hy
    have : (0 : Int) + (t : Int) = (t : Int) := by omega
    rw [this]
    exact st t acc D _ ht ha hx
  · exact ⟨by show ((n : Int)).toNat ≤ n; omega, en acc D H ha hx⟩
/-- over enumerate(a list), two names -/
theorem k_enum {elt : E} {i j : Nat} {p : Addr} {xs : List V} (hij : i ≠ j) (L : Nat → List V → List HP) (x : SL (L 0 []) H) (sq : ∀ t acc H, SL (L t acc) H → SqL R.K H p xs)
    (st : ∀ t acc D H v, xs[t]? = some v → acc.length = t → SL (pt D (.lst acc) :: L t acc) H → wE R k elt W0 (((wipe σ [i, j]).set i (some (.int (t : Nat)))).set j (some v)) H (CompN D t L))
    (en : ∀ acc D H, acc.length = xs.length → SL (pt D (.lst acc) :: L xs.length acc) H → Q (.ref D) H) :
    ∃ q ys, V.ref p = .ref q ∧ SqL R.K H q ys ∧ CompP R k σ i j elt Q (Ite R.K q) H := by
  refine ⟨p, xs, rfl, sq _ _ _ x, fun D hD => ?_⟩
  refine ⟨fun t m H => t + m = xs.length ∧ ∃ acc, acc.length = t ∧ SL (pt D (.lst acc) :: L t acc) H, ⟨xs.length, by omega, [], rfl, x.new _ hD⟩, fun t m H hw => ?_⟩
  obtain ⟨hm, acc, ha, hx⟩ := hw
  have s1 := sq _ _ _ hx.tail
  by_cases ht : t < xs.length
  · refine .inr ⟨⟨xs, xs[t], s1, List.getElem?_eq_getElem ht⟩, fun H' => ∃ acc, acc.length = t + 1 ∧ SL (pt D (.lst acc) :: L (t + 1) acc) H', fun H' hn => ⟨m - 1, by omega, by omega, hn⟩, fun v H' hy => ?_⟩
    obtain ⟨T, y, rfl, hT, rfl, hv⟩ := hy
    have hx' : SL (pt D (.lst acc) :: L t acc) (upd H T (.tup [.int (t : Nat), y])) := (hx.new _ hT).tail
    refine ⟨T, [.int (t : Nat), y], rfl, .inl (.inl (.inl upd_same)), rfl, ?_⟩
    refine ⟨?_, st t acc D _ y (hv xs s1) ha hx'⟩
    show ((((((σ.set j none).set i none).set i (some _)).set j (some _))).set j none).set i none = (σ.set j none).set i none
    have c : ∀ (l : L2.St) a, (l.set i a).set j none = (l.set j none).set i a := fun l a => List.set_comm _ _ hij
    simp only [List.set_set, c]
  · have : t = xs.length := by omega
    subst this
    exact .inl ⟨⟨xs, s1, Nat.le_refl _⟩, en acc D H ha hx⟩
end
/-! ### small steps over lists of parts -/
theorem SL.up {A : HP} (mono : ∀ h H, Sub h H → A h → A H) : ∀ {l : List HP} {H : Hp}, A ∈ l → SL l H → A H
  | B :: l, H, m, ⟨h, g, a, b, d, x, y⟩ => by
    cases m with
    | head => exact mono h H a x
    | tail _ m => exact mono g H b (SL.up mono m y)
theorem SL.add {P : Prop} {l : List HP} {H : Hp} (p : P) (x : SL l H) : SL ((fun _ => P) :: l) H := ⟨fun _ => none, H, (fun _ _ e => by cases e), Sub.refl _, (fun _ _ _ e => by cases e), p, x⟩
/-- a thing that is fixed stands beside the rest -/
theorem SL.mk_fix {p : Addr} {o : HO} {l : List HP} {H : Hp} (f : fixO o = true) (e : H p = some o) (x : SL l H) : SL (pt p o :: l) H :=
  ⟨one p o, H, (fun a u q => by obtain ⟨rfl, rfl⟩ := one_some q; exact e), Sub.refl _, (fun a u v q r => by obtain ⟨rfl, rfl⟩ := one_some q; exact f), one_at, x⟩
theorem SL.swap3 {A B C : HP} {l : List HP} {H : Hp} (x : SL (A :: B :: C :: l) H) : SL (C :: A :: B :: l) H := x.perm (((List.Perm.swap C B l).cons A).trans (List.Perm.swap C A _))
theorem take_next {α : Type _} {l acc : List α} {t : Nat} {y : α} (e : acc = l.take t) (h : l[t]? = some y) : acc ++ [y] = l.take (t + 1) := by
  rw [List.take_add_one, h, e]
  rfl
end Zw

set_option Elab.async false
set_option linter.all false
set_option maxRecDepth 100000
set_option maxHeartbeats 4000000
namespace Zw
open PySem PySem.Spec PyProof.Rows L2
local macro_rules | `(tactic| walk_at "mem") => `(tactic| (first | exact List.Mem.head _ | (apply List.Mem.tail; walk_at "mem")))
local macro_rules | `(tactic| walk_at "rp") => `(tactic| (first | exact Rp.hd | (apply Rp.tl; walk_at "rp")))
local macro_rules | `(tactic| walk_at "pk") => `(tactic| (first | exact Pk.hd | (apply Pk.tl; walk_at "pk")))
local macro_rules | `(tactic| walk_at "go1") => `(tactic| with_reducible (first
  | refine q_set ?_ | refine q_exp ?_ | refine q_doc ?_ | refine q_pass ?_ | refine q_ret ?_ | refine q_retN ?_ | refine q_brk ?_ | refine q_cont ?_ | refine q_if ?_ | refine q_par ?_ | refine q_setFld ?_ | refine q_setSub ?_ | refine q_for ?_
  | refine e_int ?_ | refine e_str ?_ | refine e_bl ?_ | refine e_non ?_ | refine e_bin ?_ | refine e_neg ?_ | refine e_nt ?_ | refine e_cmp ?_ | refine e_chain ?_ | refine e_and ?_ | refine e_or ?_ | refine e_ife ?_ | refine e_fld ?_ | refine e_sub ?_ | refine e_tup ?_ | refine e_lst ?_ | refine e_bi ?_ | refine e_meth ?_
  | refine es_nil ?_ | refine es_cons ?_ | refine t_yes ?_ | refine t_nt ?_ | refine t_and ?_ | refine t_or ?_ | refine t_cmp ?_ | refine t_val ?_ | refine i_seq ?_ | refine i_rng ?_
  | refine x_bl ?_ | refine x_in ?_ | refine tr_bl ?_ | refine tr_int ?_ | refine tr_non ?_
  | refine b_add ?_ | refine b_sub ?_ | refine c_lt ?_ | refine c_le ?_ | refine c_gt ?_ | refine c_ge ?_ | refine c_is ?_ | refine c_isnt ?_ | refine i_intB ?_ | refine c_eqI ?_ | refine c_neI ?_ | refine c_eqB ?_ | refine c_neB ?_ | refine c_eqS ?_ | refine q_nil ?_ | refine x_itt ?_ | refine x_iff ?_))
local macro_rules | `(tactic| walk_at "go2") => `(tactic| (first
  | ((with_reducible refine' e_var ?hg ?hh); (case hg => rfl))
  | ((with_reducible refine' s_0 ?hx ?hm ?hg ?hh); (case hx => assumption); (case hm => walk_at "mem"); (case hg => rfl))
  | ((with_reducible refine' s_1 ?hx ?hm ?hg ?hh); (case hx => assumption); (case hm => walk_at "mem"); (case hg => rfl))
  | ((with_reducible refine' s_2 ?hx ?hm ?hg ?hh); (case hx => assumption); (case hm => walk_at "mem"); (case hg => rfl))
  | ((with_reducible refine' p_0 ?hx ?hr ?hb ?hh); (case hx => assumption); (case hr => walk_at "rp"); (case hb => first | (simp; done) | decide); intros)
  | ((with_reducible refine' p_1 ?hx ?hr ?hb ?hh); (case hx => assumption); (case hr => walk_at "rp"); (case hb => first | (simp; done) | decide); intros)
  | ((with_reducible refine' n_lst ?hx ?hb ?hh); (case hx => assumption); (case hb => first | decide | (simp only [List.length_cons, List.length_nil]; decide)); intros)
  | ((with_reducible refine' n_tup ?hx ?hb ?hh); (case hx => assumption); (case hb => first | decide | (simp only [List.length_cons, List.length_nil]; decide)); intros)))
local macro_rules | `(tactic| walk_at "go") => `(tactic| repeat (first | walk_at "go1" | walk_at "go2"))
local macro_rules | `(tactic| walk_at "go2") => `(tactic| (first
  | ((with_reducible refine' e_ty ?hg ?hh); (case hg => rfl))
  | ((with_reducible refine' isi_dp ok_bl ?hx ?hh); (case hx => assumption))
  | ((with_reducible refine' isi_dp ok_int ?hx ?hh); (case hx => assumption))
  | ((with_reducible refine' isi_dp ok_str ?hx ?hh); (case hx => assumption))
  | ((with_reducible refine' isi_dp ok_tup ?hx ?hh); (case hx => assumption))
  | ((with_reducible refine' isi_dp ok_lst ?hx ?hh); (case hx => assumption))
  | ((with_reducible refine' x_dt ?hc ?hh); (case hc => rfl))
  | ((with_reducible refine' x_df ?hc ?hh); (case hc => rfl))))
/-! ## parts of lists of things; benches -/
section
variable {α β : Type _}
/-- the things at xs are as ys tells, each by itself -/
def All2 (A : α → β → HP) (xs : List α) (ys : List β) : HP := fun h => xs.length = ys.length ∧ SL (List.zipWith A xs ys) h
/-- all but the one at j -/
def Hole (A : α → β → HP) (xs : List α) (ys : List β) (j : Nat) : HP := fun h => xs.length = ys.length ∧ SL ((List.zipWith A xs ys).eraseIdx j) h
theorem SL.one' {A : HP} {h : Hp} (a : A h) : SL [A] h := ⟨h, fun _ => none, Sub.refl _, (fun _ _ e => by cases e), (fun _ _ _ _ e => by cases e), a, trivial⟩
theorem SL.un1 {A : HP} {h : Hp} (x : SL [A] h) : ∃ h', Sub h' h ∧ A h' := by
  obtain ⟨h1, g, a, b, d, y, _⟩ := x
  exact ⟨h1, a, y⟩
theorem SL.cons_imp {A : HP} {m l : List HP} {H : Hp} (x : SL (A :: l) H) (f : ∀ h, A h → SL m h) : SL (m ++ l) H := (x.imp (B := SL m) f).nest
theorem SL.uncons {A : HP} {m l : List HP} {H : Hp} (x : SL (m ++ l) H) (f : ∀ h, SL m h → A h) : SL (A :: l) H := (SL.unnest x).imp f
variable {A : α → β → HP} {xs : List α} {ys : List β} {l : List HP} {H : Hp} {j : Nat}
theorem All2.len (x : SL (All2 A xs ys :: l) H) : xs.length = ys.length := by
  obtain ⟨h, g, a, b, d, y, z⟩ := x
  exact y.1
theorem zip_at {a : α} {b : β} (ha : xs[j]? = some a) (hb : ys[j]? = some b) : (List.zipWith A xs ys)[j]? = some (A a b) := by
  rw [List.getElem?_zipWith, ha, hb]
theorem perm_at {γ : Type _} {c : γ} : ∀ {zs : List γ} {j : Nat}, zs[j]? = some c → zs.Perm (c :: zs.eraseIdx j)
  | [], _, h => by simp at h
  | z :: zs, 0, h => by
    simp at h
    subst h
    exact .refl _
  | z :: zs, j + 1, h => by
    have := perm_at (zs := zs) (j := j) (by simpa using h)
    exact (this.cons z).trans (.swap _ _ _)
theorem All2.open {a : α} {b : β} (ha : xs[j]? = some a) (hb : ys[j]? = some b) (x : SL (All2 A xs ys :: l) H) : SL (A a b :: Hole A xs ys j :: l) H := by
  refine SL.cons_imp (m := [A a b, Hole A xs ys j]) x fun h y => ?_
  obtain ⟨y1, y2⟩ := y
  obtain ⟨h1, g, s1, s2, d, z1, z2⟩ := y2.perm (perm_at (zip_at ha hb))
  exact ⟨h1, g, s1, s2, d, z1, SL.one' ⟨y1, z2⟩⟩
theorem zip_set (a : α) (b : β) : ∀ (xs : List α) (ys : List β) (j : Nat), xs.length = ys.length → List.zipWith A (xs.set j a) (ys.set j b) = (List.zipWith A xs ys).set j (A a b)
  | [], [], _, _ => rfl
  | x :: xs, y :: ys, 0, _ => rfl
  | x :: xs, y :: ys, j + 1, h => by simp [zip_set a b xs ys j (by simpa using h)]
  | [], _ :: _, _, h => by cases h
  | _ :: _, [], _, h => by cases h
theorem All2.close {a : α} {b : β} (hj : j < xs.length) (x : SL (A a b :: Hole A xs ys j :: l) H) : SL (All2 A (xs.set j a) (ys.set j b) :: l) H := by
  refine SL.uncons (m := [A a b, Hole A xs ys j]) x fun h y => ?_
  obtain ⟨h1, g, s1, s2, d, z1, z2⟩ := y
  obtain ⟨h2, s3, y1, y2⟩ := z2.un1
  refine ⟨by simpa using y1, ?_⟩
  rw [zip_set a b xs ys j y1]
  have hl : j < (List.zipWith A xs ys).length := by simp; omega
  refine SL.perm (l := A a b :: (List.zipWith A xs ys).eraseIdx j) ?_ ⟨h1, g, s1, s2, d, z1, y2.mono s3⟩
  have := perm_at (j := j) (zs := (List.zipWith A xs ys).set j (A a b)) (c := A a b) (by rw [List.getElem?_set_self hl])
  rw [List.eraseIdx_set_eq] at this
  exact this.symm
theorem All2.close' {a : α} {b : β} (ha : xs[j]? = some a) (hb : ys[j]? = some b) (x : SL (A a b :: Hole A xs ys j :: l) H) : SL (All2 A xs ys :: l) H := by
  have h1 := (List.getElem?_eq_some_iff.mp ha)
  have h2 := (List.getElem?_eq_some_iff.mp hb)
  obtain ⟨i1, e1⟩ := h1
  obtain ⟨i2, e2⟩ := h2
  have := All2.close (xs := xs) (ys := ys) (a := a) (b := b) i1 x
  rw [show xs.set j a = xs by rw [← e1, List.set_getElem_self], show ys.set j b = ys by rw [← e2, List.set_getElem_self]] at this
  exact this
theorem All2.nil {l : List HP} {H : Hp} (x : SL l H) : SL (All2 A [] [] :: l) H := ⟨fun _ => none, H, (fun _ _ e => by cases e), Sub.refl _, (fun _ _ _ e => by cases e), ⟨rfl, trivial⟩, x⟩
theorem All2.snoc {a : α} {b : β} (x : SL (A a b :: All2 A xs ys :: l) H) : SL (All2 A (xs ++ [a]) (ys ++ [b]) :: l) H := by
  refine SL.uncons (m := [A a b, All2 A xs ys]) x fun h y => ?_
  obtain ⟨h1, g, s1, s2, d, z1, z2⟩ := y
  obtain ⟨h2, s3, y1, y2⟩ := z2.un1
  refine ⟨by simp [y1], ?_⟩
  rw [List.zipWith_append y1]
  exact SL.perm (List.perm_append_comm (l₁ := [A a b])) ⟨h1, g, s1, s2, d, z1, y2.mono s3⟩
end
/-! ### what never changes -/
/-- the part of a heap that never changes -/
def fx (H : Hp) : Hp := fun a => match H a with | some o => if fixO o = true then some o else none | none => none
theorem fx_sub (H : Hp) : Sub (fx H) H := fun a o e => by
  unfold fx at e
  split at e
  · split at e
    · cases e; assumption
    · cases e
  · cases e
theorem fx_fix {H : Hp} {a : Addr} {o : HO} (e : fx H a = some o) : fixO o = true := by
  unfold fx at e
  split at e
  · split at e
    · cases e; assumption
    · cases e
  · cases e
theorem fx_at {H : Hp} {a : Addr} {o : HO} (e : H a = some o) (f : fixO o = true) : fx H a = some o := by
  unfold fx
  rw [e]
  simp [f]
theorem SL.dupF {A : HP} {l : List HP} {H : Hp} (a : A (fx H)) (x : SL l H) : SL (A :: l) H := ⟨fx H, H, fx_sub H, Sub.refl _, (fun _ _ _ e _ => fx_fix e), a, x⟩
/-- texts, numbers, None, tuples of such -/
inductive TD (H : Hp) : V → PyData → Prop where
  | non : TD H .non .none
  | int (i : Int) : TD H (.int i) (.int i)
  | str (z : Str) : TD H (.str z) (.str z)
  | tup {a : Addr} {vs : List V} {ds : List PyData} (e : H a = some (.tup vs)) (hl : vs.length = ds.length) (h : ∀ (i : Nat) v d, vs[i]? = some v → ds[i]? = some d → TD H v d) : TD H (.ref a) (.tuple ds)
theorem TD.up {H H' : Hp} (s : Sub H H') {v : V} {d : PyData} (x : TD H v d) : TD H' v d := by
  induction x with
  | non => exact .non
  | int i => exact .int i
  | str z => exact .str z
  | tup e hl _ ih => exact .tup (s _ _ e) hl ih
theorem TD.fix {H : Hp} {v : V} {d : PyData} (x : TD H v d) : TD (fx H) v d := by
  induction x with
  | non => exact .non
  | int i => exact .int i
  | str z => exact .str z
  | tup e hl _ ih => exact .tup (fx_at e rfl) hl ih
def TupA (v : V) (d : PyData) : HP := fun h => TD h v d
theorem dpAll_of {K : PySem.W.Frag} {H : Hp} : ∀ {vs : List V} {ds : List PyData}, vs.length = ds.length → (∀ (i : Nat) v d, vs[i]? = some v → ds[i]? = some d → Dp K H v d) → DpAll K H vs ds
  | [], [], _, _ => .nil
  | v :: vs, d :: ds, h, f => .cons (f 0 v d rfl rfl) (dpAll_of (by simpa using h) fun i v' d' h1 h2 => f (i + 1) v' d' (by simpa using h1) (by simpa using h2))
  | [], _ :: _, h, _ => by cases h
  | _ :: _, [], h, _ => by cases h
theorem TD.dp {K : PySem.W.Frag} {H : Hp} {v : V} {d : PyData} (x : TD H v d) : Dp K H v d := by
  induction x with
  | non => exact .non
  | int i => exact .int i
  | str z => exact .str z
  | tup e hl _ ih => exact .tup (st_t e) (dpAll_of hl ih)
/-! ### lambdas at hand -/
open Classical in
noncomputable def lamH (T : List (Addr × Str)) (H : Hp) : Hp := fun a => if ∃ p ∈ T, p.1 = a then H a else fx H a
theorem lamH_in {T : List (Addr × Str)} {H : Hp} {a : Addr} (h : ∃ p ∈ T, p.1 = a) : lamH T H a = H a := by unfold lamH; rw [if_pos h]
theorem lamH_out {T : List (Addr × Str)} {H : Hp} {a : Addr} (h : ¬ ∃ p ∈ T, p.1 = a) : lamH T H a = fx H a := by unfold lamH; rw [if_neg h]
theorem SL.lam {T : List (Addr × Str)} {l : List HP} {H H1 : Hp} (x : SL (tabsOk T :: l) H) (k : KeepT T H H1) (t : tabsOk T H1) : SL (tabsOk T :: l) H1 := by
  obtain ⟨h, g, s1, s2, d, th, y⟩ := x
  have gn : ∀ p ∈ T, g p.1 = none := fun p hp => by
    obtain ⟨ps, e, _⟩ := th p hp
    cases q : g p.1 with
    | none => rfl
    | some u =>
      have := d _ _ _ e q
      cases this
  refine ⟨lamH T H1, g, fun a o e => ?_, fun a o e => k a o (s2 a o e) fun p hp z => ?_, fun a o u e f => ?_, fun p hp => ?_, y⟩
  · by_cases z : ∃ p ∈ T, p.1 = a
    · rw [lamH_in z] at e; exact e
    · rw [lamH_out z] at e; exact fx_sub H1 a o e
  · rw [← z, gn p hp] at e
    cases e
  · by_cases z : ∃ p ∈ T, p.1 = a
    · obtain ⟨p, hp, rfl⟩ := z
      rw [gn p hp] at f
      cases f
    · rw [lamH_out z] at e
      exact fx_fix e
  · obtain ⟨ps, e1, e2, e3⟩ := t p hp
    refine ⟨ps, by rw [lamH_in ⟨p, hp, rfl⟩]; exact e1, e2, fun pos cv hc => ?_⟩
    obtain ⟨c, od, f1, f2⟩ := e3 pos cv hc
    refine ⟨c, od, f1, ?_⟩
    by_cases z : ∃ p ∈ T, p.1 = c
    · rw [lamH_in z]; exact f2
    · rw [lamH_out z]; exact fx_at f2 rfl
theorem less_join {cz H : Hp} (n : ∀ a o, cz a = some o → H a = none) : less cz (join cz H) = H := by
  funext a
  rcases cz_or cz a with ⟨o, q⟩ | q
  · rw [less_cz q, n a o q]
  · rw [less_no q, join_no q]
/-- a def to which lambdas are handed -/
structure HasZ (R : Rt) (k : Nat) (x : Str) (f : Addr) (sp : Sp) : Prop where
  mg : R.mg x = some (.ref f)
  kp : PySem.W.keepIn R.K (.ref f) = true
  ok : CallEnv R k f sp
/-- told(lambda: b) -/
theorem e_told {R : Rx} {k j : Nat} {W : WX} {σ : L2.St} {H : Hp} {Q : VK} {g : Addr} {cls : Str → Addr} {b : E} {l : List HP} (N : HasZ R.toRt k "_law_told" g (spTold R.toRt (j + 1) cls)) (x : SL (tabsOk R.T :: l) H)
    (tm : ∀ h h', Sub h h' → tabsOk R.T h → tabsOk R.T h')
    (hb : ∀ (H1 : Hp) (Qn : VK) (En : XK), SL (tabsOk R.T :: l) H1 → (∀ v H', Q v H' → Qn v H') →
      (∀ w ∈ kindNames, w ≠ "BadText" → ∀ dd fs H', H' dd = some (.xd fs) → (∀ p H'', (∀ a o, H' a = some o → H'' a = some o) → H'' p = some (.tup [.str w, .int 0]) → Q (.ref p) H'') → En (.ref (cls w)) (some dd) H') →
      wE R j b (fun c d _ H' => En c d H') σ H1 Qn) : wE R k (.callZ "_law_told" (.cons (.lam b) .nil)) W σ H Q := by
  refine ⟨g, N.mg, N.kp, SL.up tm (.head _) x, fun f fz H1 kt t1 hz _ hM => ⟨_, N.ok, fun cz ck cn hL => ?_⟩⟩
  have x1 := x.lam kt t1
  refine ⟨f, knows cz fz, _, rfl, ⟨fun a o e => join_cz e, fun p hp => ?_⟩, hL f fz _ hM j, fun E hE => ⟨rfl, ?_⟩⟩
  · have e1 := hz p hp
    have e2 : cz p.1 = none := by
      rcases cz_or cz p.1 with ⟨o, q⟩ | q
      · rw [cn _ _ q] at e1; cases e1
      · exact q
    rw [join_no e2]
    exact e1
  · rw [less_join cn]
    refine hb H1 _ (fun c d H' => (∀ a o, cz a = some o → H' a = none) → E c d (join cz H')) x1 (fun v H' q n _ => ?_) fun w mw nb dd fs H' hd hq n => hE _ _ _ ⟨w, mw, nb, rfl, ⟨dd, fs, rfl, ?_⟩, fun p H'' up ep kz => ?_⟩
    · rw [less_join n]
      exact q
    · have e2 : cz dd = none := by
        rcases cz_or cz dd with ⟨o, q⟩ | q
        · rw [n _ _ q] at hd; cases hd
        · exact q
      rw [join_no e2]
      exact hd
    · have e2 : cz p = none := by
        rcases cz_or cz p with ⟨o, q⟩ | q
        · obtain ⟨oc, rfl, _⟩ := ck _ _ q
          have := kz _ _ q
          rw [ep] at this
          cases this
        · exact q
      refine hq p (less cz H'') (fun a o e => ?_) (by rw [less_no e2]; exact ep)
      have e3 : cz a = none := by
        rcases cz_or cz a with ⟨o, q⟩ | q
        · rw [n _ _ q] at e; cases e
        · exact q
      rw [less_no e3]
      exact up a o (by rw [join_no e3]; exact e)

end Zw

set_option Elab.async false
set_option linter.all false
set_option maxRecDepth 100000
set_option maxHeartbeats 4000000
namespace Zw
open PySem PySem.Spec PyProof.Rows L2
local macro_rules | `(tactic| walk_at "mem") => `(tactic| (first | exact List.Mem.head _ | (apply List.Mem.tail; walk_at "mem")))
local macro_rules | `(tactic| walk_at "rp") => `(tactic| (first | exact Rp.hd | (apply Rp.tl; walk_at "rp")))
local macro_rules | `(tactic| walk_at "pk") => `(tactic| (first | exact Pk.hd | (apply Pk.tl; walk_at "pk")))
local macro_rules | `(tactic| walk_at "go1") => `(tactic| with_reducible (first
  | refine q_set ?_ | refine q_exp ?_ | refine q_doc ?_ | refine q_pass ?_ | refine q_ret ?_ | refine q_retN ?_ | refine q_brk ?_ | refine q_cont ?_ | refine q_if ?_ | refine q_par ?_ | refine q_setFld ?_ | refine q_setSub ?_ | refine q_for ?_
  | refine e_int ?_ | refine e_str ?_ | refine e_bl ?_ | refine e_non ?_ | refine e_bin ?_ | refine e_neg ?_ | refine e_nt ?_ | refine e_cmp ?_ | refine e_chain ?_ | refine e_and ?_ | refine e_or ?_ | refine e_ife ?_ | refine e_fld ?_ | refine e_sub ?_ | refine e_tup ?_ | refine e_lst ?_ | refine e_bi ?_ | refine e_meth ?_
  | refine es_nil ?_ | refine es_cons ?_ | refine t_yes ?_ | refine t_nt ?_ | refine t_and ?_ | refine t_or ?_ | refine t_cmp ?_ | refine t_val ?_ | refine i_seq ?_ | refine i_rng ?_
  | refine x_bl ?_ | refine x_in ?_ | refine tr_bl ?_ | refine tr_int ?_ | refine tr_non ?_
  | refine b_add ?_ | refine b_sub ?_ | refine c_lt ?_ | refine c_le ?_ | refine c_gt ?_ | refine c_ge ?_ | refine c_is ?_ | refine c_isnt ?_ | refine i_intB ?_ | refine c_eqI ?_ | refine c_neI ?_ | refine c_eqB ?_ | refine c_neB ?_ | refine c_eqS ?_ | refine q_nil ?_ | refine x_itt ?_ | refine x_iff ?_))
local macro_rules | `(tactic| walk_at "go2") => `(tactic| (first
  | ((with_reducible refine' e_var ?hg ?hh); (case hg => rfl))
  | ((with_reducible refine' s_0 ?hx ?hm ?hg ?hh); (case hx => assumption); (case hm => walk_at "mem"); (case hg => rfl))
  | ((with_reducible refine' s_1 ?hx ?hm ?hg ?hh); (case hx => assumption); (case hm => walk_at "mem"); (case hg => rfl))
  | ((with_reducible refine' s_2 ?hx ?hm ?hg ?hh); (case hx => assumption); (case hm => walk_at "mem"); (case hg => rfl))
  | ((with_reducible refine' p_0 ?hx ?hr ?hb ?hh); (case hx => assumption); (case hr => walk_at "rp"); (case hb => first | (simp; done) | decide); intros)
  | ((with_reducible refine' p_1 ?hx ?hr ?hb ?hh); (case hx => assumption); (case hr => walk_at "rp"); (case hb => first | (simp; done) | decide); intros)
  | ((with_reducible refine' n_lst ?hx ?hb ?hh); (case hx => assumption); (case hb => first | decide | (simp only [List.length_cons, List.length_nil]; decide)); intros)
  | ((with_reducible refine' n_tup ?hx ?hb ?hh); (case hx => assumption); (case hb => first | decide | (simp only [List.length_cons, List.length_nil]; decide)); intros)))
local macro_rules | `(tactic| walk_at "go") => `(tactic| repeat (first | walk_at "go1" | walk_at "go2"))
local macro_rules | `(tactic| walk_at "go2") => `(tactic| (first
  | ((with_reducible refine' e_ty ?hg ?hh); (case hg => rfl))
  | ((with_reducible refine' isi_dp ok_bl ?hx ?hh); (case hx => assumption))
  | ((with_reducible refine' isi_dp ok_int ?hx ?hh); (case hx => assumption))
  | ((with_reducible refine' isi_dp ok_str ?hx ?hh); (case hx => assumption))
  | ((with_reducible refine' isi_dp ok_tup ?hx ?hh); (case hx => assumption))
  | ((with_reducible refine' isi_dp ok_lst ?hx ?hh); (case hx => assumption))
  | ((with_reducible refine' x_dt ?hc ?hh); (case hc => rfl))
  | ((with_reducible refine' x_df ?hc ?hh); (case hc => rfl))))
theorem SL.p1 {A : HP} {l r : List HP} {H : Hp} (x : SL l H) (p : Pk A l r) : SL (A :: r) H := x.pk p
theorem SL.p2 {A B : HP} {l r r2 : List HP} {H : Hp} (x : SL l H) (p : Pk A l r) (q : Pk B r r2) : SL (A :: B :: r2) H := x.pks (as := [A, B]) (.cons p (.cons q .nil))
theorem SL.p3 {A B C : HP} {l r r2 r3 : List HP} {H : Hp} (x : SL l H) (p : Pk A l r) (q : Pk B r r2) (s : Pk C r2 r3) : SL (A :: B :: C :: r3) H := x.pks (as := [A, B, C]) (.cons p (.cons q (.cons s .nil)))
theorem SL.p4 {A B C D : HP} {l r r2 r3 r4 : List HP} {H : Hp} (x : SL l H) (p : Pk A l r) (q : Pk B r r2) (s : Pk C r2 r3) (t : Pk D r3 r4) : SL (A :: B :: C :: D :: r4) H := x.pks (as := [A, B, C, D]) (.cons p (.cons q (.cons s (.cons t .nil))))
section
variable {R : Rx} {k : Nat} {W : WX} {D : Ends} {σ : L2.St} {H : Hp} {Q : VK} {r : Ss}
theorem k_rng' {elt : E} {i n : Nat} (L : Nat → List V → List HP) (b : n < 2 ^ 62) (x : SL (L 0 []) H)
    (st : ∀ t acc D H, t < n → acc.length = t → SL (pt D (.lst acc) :: L t acc) H → wE R k elt W0 ((wipe σ [i]).set i (some (.int (t : Nat)))) H (CompN D t L))
    (en : ∀ acc D H, acc.length = n → SL (pt D (.lst acc) :: L n acc) H → Q (.ref D) H) : -(2 ^ 62) ≤ (n : Int) ∧ (n : Int) < 2 ^ 62 ∧ CompG R k σ i elt Q (Itr 0 (n : Int).toNat) H := by
  obtain ⟨j, e, h⟩ := k_rng (R := R) (k := k) (σ := σ) (Q := Q) (elt := elt) (i := i) (n := n) L b x st en
  cases e
  exact h
theorem l_rng' {i : Nat} {a : Ss} {n : Nat} (inv : Nat → L2.St → Hp → Prop) (b : n < 2 ^ 62) (i0 : inv 0 σ H)
    (st : ∀ j σ H, j < n → inv j σ H → wSs R k a W { D with nx := inv (j + 1), ct := inv (j + 1), bk := fun σ' H' => wSs R k r W D σ' H' } (σ.set i (some (.int (j : Nat)))) H) (en : ∀ σ H, inv n σ H → wSs R k r W D σ H) :
    -(2 ^ 62) ≤ (n : Int) ∧ (n : Int) < 2 ^ 62 ∧ ∃ V : Nat → Nat → L2.St → Hp → Prop, (∃ m, V 0 m σ H) ∧ ∀ t m σ H, V t m σ H →
  ((Itr 0 (n : Int).toNat).stop t H ∧ wSs R k r W D σ H) ∨ ((Itr 0 (n : Int).toNat).go t H ∧ ∃ N : L2.St → Hp → Prop, (∀ σ' H', N σ' H' → ∃ m', m' < m ∧ V (t + 1) m' σ' H') ∧ ∀ x H', (Itr 0 (n : Int).toNat).yld t H x H' → wSs R k a W { D with nx := N, ct := N, bk := fun σ' H' => wSs R k r W D σ' H' } (σ.set i (some x)) H') := by
  obtain ⟨j, e, h⟩ := l_rng (R := R) (k := k) (W := W) (D := D) (r := r) (a := a) (i := i) (n := n) inv b i0 st en
  cases e
  exact h
end
/-! ## the bench, by what it holds -/
structure Dk where
  blocks : List (List Nat)
  laid : PyData
structure Bst where
  disks : List (Option Dk)
  left : Option Nat
  stop : Bool
  done : Nat
def leftV : Option Nat → V
  | none => .non
  | some n => .int (n : Nat)
def numsV (row : List Nat) : List V := row.map fun n => .int (n : Nat)
def RowA (v : V) (row : List Nat) : HP := fun h => ∃ a, v = .ref a ∧ h a = some (.lst (numsV row))
def BlocksA (v : V) (bl : List (List Nat)) : HP := fun h => ∃ p vs, v = .ref p ∧ SL [pt p (.lst vs), All2 RowA vs bl] h
def DiskA (Cd : Addr) (v : V) : Option Dk → HP
  | none => fun _ => v = .non
  | some k => fun h => ∃ a dx bv lv, v = .ref a ∧ SL [pt a (.ins Cd dx [("blocks", bv), ("laid", lv)]), BlocksA bv k.blocks, TupA lv k.laid] h
def BenchA (C Cd : Addr) (x : Addr) (s : Bst) : HP := fun h => ∃ dx p vs, SL [pt x (benchO C dx p s.done (leftV s.left) s.stop), pt p (.lst vs), All2 (DiskA Cd) vs s.disks] h
def freshDk (n : Nat) : Dk := ⟨List.replicate n [0, 0, 0, 0], .none⟩
structure DiskC (K : PySem.W.Frag) (C : Addr) : Prop where
  cls : Cls K C
  na : ∀ f ∈ (["blocks", "laid"] : List Str), NoAttr K C f
section
variable {C Cd x : Addr} {s : Bst} {l : List HP} {H : Hp}
theorem BenchA.out (y : SL (BenchA C Cd x s :: l) H) : ∃ dx p vs, SL (pt x (benchO C dx p s.done (leftV s.left) s.stop) :: pt p (.lst vs) :: All2 (DiskA Cd) vs s.disks :: l) H := by
  obtain ⟨dx, y⟩ := y.ex
  obtain ⟨p, y⟩ := y.ex
  obtain ⟨vs, y⟩ := y.ex
  exact ⟨dx, p, vs, y.nest⟩
theorem BenchA.mk {dx p : Addr} {vs : List V} (y : SL (pt x (benchO C dx p s.done (leftV s.left) s.stop) :: pt p (.lst vs) :: All2 (DiskA Cd) vs s.disks :: l) H) : SL (BenchA C Cd x s :: l) H :=
  SL.uncons (m := [_, _, _]) y fun h z => ⟨dx, p, vs, z⟩
theorem DiskA.out {v : V} {k : Dk} (y : SL (DiskA Cd v (some k) :: l) H) : ∃ a dx bv lv, v = .ref a ∧ SL (pt a (.ins Cd dx [("blocks", bv), ("laid", lv)]) :: BlocksA bv k.blocks :: TupA lv k.laid :: l) H := by
  have y : SL ((fun h => ∃ a dx bv lv, v = .ref a ∧ SL [pt a (.ins Cd dx [("blocks", bv), ("laid", lv)]), BlocksA bv k.blocks, TupA lv k.laid] h) :: l) H := y
  obtain ⟨a, y⟩ := y.ex
  obtain ⟨dx, y⟩ := y.ex
  obtain ⟨bv, y⟩ := y.ex
  obtain ⟨lv, y⟩ := y.ex
  obtain ⟨e, y⟩ := y.pure
  exact ⟨a, dx, bv, lv, e, y.nest⟩
theorem DiskA.mk {a dx : Addr} {bv lv : V} {k : Dk} (y : SL (pt a (.ins Cd dx [("blocks", bv), ("laid", lv)]) :: BlocksA bv k.blocks :: TupA lv k.laid :: l) H) : SL (DiskA Cd (.ref a) (some k) :: l) H :=
  SL.uncons (m := [_, _, _]) y fun h z => ⟨a, dx, bv, lv, rfl, z⟩
theorem DiskA.no {v : V} (y : SL (DiskA Cd v none :: l) H) : v = .non ∧ SL l H := SL.fact (P := v = .non) y
theorem BlocksA.out {v : V} {bl : List (List Nat)} (y : SL (BlocksA v bl :: l) H) : ∃ p vs, v = .ref p ∧ SL (pt p (.lst vs) :: All2 RowA vs bl :: l) H := by
  obtain ⟨p, y⟩ := y.ex
  obtain ⟨vs, y⟩ := y.ex
  obtain ⟨e, y⟩ := y.pure
  exact ⟨p, vs, e, y.nest⟩
theorem BlocksA.mk {p : Addr} {vs : List V} {bl : List (List Nat)} (y : SL (pt p (.lst vs) :: All2 RowA vs bl :: l) H) : SL (BlocksA (.ref p) bl :: l) H :=
  SL.uncons (m := [_, _]) y fun h z => ⟨p, vs, rfl, z⟩
theorem RowA.out {v : V} {row : List Nat} (y : SL (RowA v row :: l) H) : ∃ a, v = .ref a ∧ SL (pt a (.lst (numsV row)) :: l) H := by
  obtain ⟨a, y⟩ := y.ex
  obtain ⟨e, y⟩ := y.pure
  exact ⟨a, e, y⟩
theorem RowA.mk {a : Addr} {row : List Nat} (y : SL (pt a (.lst (numsV row)) :: l) H) : SL (RowA (.ref a) row :: l) H := y.imp fun h z => ⟨a, rfl, z⟩
end
/-! ### a disk -/
def N_Disk_init : List Str := ["self", "pieces", "_"]
def b_Disk_init : Ss := (.cons (.setFld (.var 0) "blocks" (.comp (.bin .Mult (.lst (.cons (.int 0) .nil)) (.glob "BLOCKS")) (.nm 2) (.rng1 (.var 1)) .yes [2]))
  (.cons (.setFld (.var 0) "laid" .non)
  .nil))
theorem b_rep {K : PySem.W.Frag} {H : Hp} {Q : VK} {p : Addr} {l : List HP} (x : SL l H) (m : pt p (.lst [.int 0]) ∈ l) (h : ∀ q H', SL (pt q (.lst (numsV [0, 0, 0, 0])) :: l) H' → Q (.ref q) H') : rBin K .Mult (.ref p) (.int 4) H Q :=
  .inr (.inr ⟨p, 4, [.int 0], rfl, rfl, SL.get m x, by decide, by decide, by decide, fun q n => h q _ (x.new _ n)⟩)
def spDiskInit (Cd : Addr) : Sp := fun vs H Q _ => ∃ (a dx : Addr) (n : Nat) (l : List HP), vs = [.ref a, .int (n : Nat)] ∧ n ≤ 12 ∧ SL (pt a (.ins Cd dx []) :: l) H ∧ ∀ H', SL (DiskA Cd (.ref a) (some (freshDk n)) :: l) H' → Q .non H'
theorem rep_snoc {α : Type _} (n : Nat) (a : α) : List.replicate n a ++ [a] = List.replicate (n + 1) a := by rw [List.replicate_succ']
theorem w_Disk_init {R : Rx} {k : Nat} {Cd : Addr} {vs : List V} {H : Hp} {Q : VK} {X : XK} (DC : DiskC R.K Cd) (N1 : HasInt R.toRt "BLOCKS" 4) (h : spDiskInit Cd vs H Q X) : wSs R k b_Disk_init (fun cls d _ H' => X cls d H') { nx := fun _ H' => Q .non H', rt := Q } (L2.start N_Disk_init vs) H := by
  obtain ⟨a, dx, n, l, rfl, hn, x, hq⟩ := h
  have sz : (500 : Nat) < sizeLine := by rw [sizeLine_eq]; decide
  show wSs R k b_Disk_init _ _ [some (.ref a), some (.int (n : Nat)), none] H
  unfold b_Disk_init
  walk_at "go"
  refine e_comp (i_rng ?_)
  walk_at "go"
  refine k_rng' (n := n) (fun t acc => All2 RowA acc (List.replicate t [0, 0, 0, 0]) :: pt a (.ins Cd dx []) :: l) (by omega) (All2.nil x) (fun t acc D H1 ht ha y => ?_) fun acc D H1 ha y => ?_
  · show wE R k _ W0 [some (.ref a), some (.int (n : Nat)), some (.int (t : Nat))] H1 _
    walk_at "go"
    rename_i p H2 x2
    refine e_gint N1 ?_
    refine b_rep x2 (.head _) fun q H3 x3 => ?_
    refine CompN.of ha (by omega) ?_
    rw [← rep_snoc]
    have x4 := RowA.mk x3
    have x5 : SL (RowA (.ref q) [0, 0, 0, 0] :: All2 RowA acc (List.replicate t [0, 0, 0, 0]) :: pt D (.lst acc) :: pt p (.lst [.int 0]) :: pt a (.ins Cd dx []) :: l) H3 := x4.p3 (by walk_at "pk") (by walk_at "pk") (by walk_at "pk")
    have x6 := All2.snoc x5
    exact (SL.drop (.tl (.tl .hd)) x6).swap
  · walk_at "go"
    refine p_fld (fs := []) y DC.cls (DC.na _ (by decide +kernel)) (show (0 : Nat) < 1000 by decide) (.tl (.tl .hd)) fun H2 x2 => ?_
    walk_at "go"
    refine p_fld (fs := [("blocks", .ref D)]) x2 DC.cls (DC.na _ (by decide +kernel)) (show (1 : Nat) < 1000 by decide) (.tl (.tl .hd)) fun H3 x3 => ?_
    walk_at "go"
    refine hq H3 (DiskA.mk (dx := dx) (bv := .ref D) (lv := .non) (k := freshDk n) ?_)
    have x4 : SL (pt D (.lst acc) :: All2 RowA acc (List.replicate n [0, 0, 0, 0]) :: pt a (.ins Cd dx [("blocks", .ref D), ("laid", .non)]) :: l) H3 := x3
    have x6 := (BlocksA.mk x4).dupF (A := TupA .non .none) TD.non
    exact x6.p3 (by walk_at "pk") (by walk_at "pk") (by walk_at "pk")

end Zw

set_option Elab.async false
set_option linter.all false
set_option maxRecDepth 100000
set_option maxHeartbeats 4000000
namespace Zw
open PySem PySem.Spec PyProof.Rows L2
local macro_rules | `(tactic| walk_at "mem") => `(tactic| (first | exact List.Mem.head _ | (apply List.Mem.tail; walk_at "mem")))
local macro_rules | `(tactic| walk_at "rp") => `(tactic| (first | exact Rp.hd | (apply Rp.tl; walk_at "rp")))
local macro_rules | `(tactic| walk_at "pk") => `(tactic| (first | exact Pk.hd | (apply Pk.tl; walk_at "pk")))
local macro_rules | `(tactic| walk_at "go1") => `(tactic| with_reducible (first
  | refine q_set ?_ | refine q_exp ?_ | refine q_doc ?_ | refine q_pass ?_ | refine q_ret ?_ | refine q_retN ?_ | refine q_brk ?_ | refine q_cont ?_ | refine q_if ?_ | refine q_par ?_ | refine q_setFld ?_ | refine q_setSub ?_ | refine q_for ?_
  | refine e_int ?_ | refine e_str ?_ | refine e_bl ?_ | refine e_non ?_ | refine e_bin ?_ | refine e_neg ?_ | refine e_nt ?_ | refine e_cmp ?_ | refine e_chain ?_ | refine e_and ?_ | refine e_or ?_ | refine e_ife ?_ | refine e_fld ?_ | refine e_sub ?_ | refine e_tup ?_ | refine e_lst ?_ | refine e_bi ?_ | refine e_meth ?_
  | refine es_nil ?_ | refine es_cons ?_ | refine t_yes ?_ | refine t_nt ?_ | refine t_and ?_ | refine t_or ?_ | refine t_cmp ?_ | refine t_val ?_ | refine i_seq ?_ | refine i_rng ?_
  | refine x_bl ?_ | refine x_in ?_ | refine tr_bl ?_ | refine tr_int ?_ | refine tr_non ?_
  | refine b_add ?_ | refine b_sub ?_ | refine c_lt ?_ | refine c_le ?_ | refine c_gt ?_ | refine c_ge ?_ | refine c_is ?_ | refine c_isnt ?_ | refine i_intB ?_ | refine c_eqI ?_ | refine c_neI ?_ | refine c_eqB ?_ | refine c_neB ?_ | refine c_eqS ?_ | refine q_nil ?_ | refine x_itt ?_ | refine x_iff ?_))
local macro_rules | `(tactic| walk_at "go2") => `(tactic| (first
  | ((with_reducible refine' e_var ?hg ?hh); (case hg => rfl))
  | ((with_reducible refine' s_0 ?hx ?hm ?hg ?hh); (case hx => assumption); (case hm => walk_at "mem"); (case hg => rfl))
  | ((with_reducible refine' s_1 ?hx ?hm ?hg ?hh); (case hx => assumption); (case hm => walk_at "mem"); (case hg => rfl))
  | ((with_reducible refine' s_2 ?hx ?hm ?hg ?hh); (case hx => assumption); (case hm => walk_at "mem"); (case hg => rfl))
  | ((with_reducible refine' p_0 ?hx ?hr ?hb ?hh); (case hx => assumption); (case hr => walk_at "rp"); (case hb => first | (simp; done) | decide); intros)
  | ((with_reducible refine' p_1 ?hx ?hr ?hb ?hh); (case hx => assumption); (case hr => walk_at "rp"); (case hb => first | (simp; done) | decide); intros)
  | ((with_reducible refine' n_lst ?hx ?hb ?hh); (case hx => assumption); (case hb => first | decide | (simp only [List.length_cons, List.length_nil]; decide)); intros)
  | ((with_reducible refine' n_tup ?hx ?hb ?hh); (case hx => assumption); (case hb => first | decide | (simp only [List.length_cons, List.length_nil]; decide)); intros)))
local macro_rules | `(tactic| walk_at "go") => `(tactic| repeat (first | walk_at "go1" | walk_at "go2"))
local macro_rules | `(tactic| walk_at "go2") => `(tactic| (first
  | ((with_reducible refine' e_ty ?hg ?hh); (case hg => rfl))
  | ((with_reducible refine' isi_dp ok_bl ?hx ?hh); (case hx => assumption))
  | ((with_reducible refine' isi_dp ok_int ?hx ?hh); (case hx => assumption))
  | ((with_reducible refine' isi_dp ok_str ?hx ?hh); (case hx => assumption))
  | ((with_reducible refine' isi_dp ok_tup ?hx ?hh); (case hx => assumption))
  | ((with_reducible refine' isi_dp ok_lst ?hx ?hh); (case hx => assumption))
  | ((with_reducible refine' x_dt ?hc ?hh); (case hc => rfl))
  | ((with_reducible refine' x_df ?hc ?hh); (case hc => rfl))))
/-! ## what the bench's methods do -/
/-- a deed of a disk: the bench behind it, and the refusal, if there is one -/
def deedB (s : Bst) (d : Nat) (f : Dk → Dk) : Bst × Option Str :=
  if s.stop = true then (s, some "Stopped") else match s.disks[d]? with
  | some (some k) => (match s.left with
    | none => ({ s with done := s.done + 1, disks := s.disks.set d (some (f k)) }, none)
    | some 0 => ({ s with stop := true }, some "Stopped")
    | some (m + 1) => ({ s with left := some m, done := s.done + 1, disks := s.disks.set d (some (f k)) }, none))
  | _ => (s, some "NoDisk")
/-- what is told: v, or the refusal of this name -/
def Ans (cls : Str → Addr) (Q : VK) (E : XK) (v : V) (r : Option Str) (H : Hp) : Prop := match r with
  | none => Q v H
  | some nm => Rsd E (cls nm) nm H
def DkOk (k : Dk) : Prop := 1 ≤ k.blocks.length ∧ k.blocks.length ≤ 12 ∧ ∀ row ∈ k.blocks, row.length = 4
def BstOk (s : Bst) : Prop := 1 ≤ s.disks.length ∧ s.disks.length ≤ 6 ∧ ∀ (i : Nat) k, s.disks[i]? = some (some k) → DkOk k
def putD (p b w : Nat) (k : Dk) : Dk := { k with blocks := k.blocks.set p (((k.blocks[p]?).getD []).set b w) }
section
variable {Cd : Addr} {vs : List V} {ds : List (Option Dk)} {l : List HP} {H : Hp} {d : Nat}
theorem disk_at {o : Option Dk} (y : SL (All2 (DiskA Cd) vs ds :: l) H) (hd : ds[d]? = some o) : ∃ v, vs[d]? = some v ∧ (o = none → v = .non) ∧ ∀ k, o = some k → ∃ a, v = .ref a := by
  have hl := All2.len y
  have hi : d < vs.length := by
    have := (List.getElem?_eq_some_iff.mp hd).1
    omega
  have e := List.getElem?_eq_getElem hi
  have z := All2.open e hd y
  refine ⟨_, e, fun h => ?_, fun k h => ?_⟩
  · subst h
    exact (DiskA.no z).1
  · subst h
    obtain ⟨a, _, _, _, e, _⟩ := DiskA.out z
    exact ⟨a, e⟩
end
def N_check_block : List Str := ["found", "piece", "block"]
def b_check_block : Ss := (.cons (.ifs (.or2 (.nt (.val (.call "is_number" (.cons (.var 1) (.cons (.int 0) (.cons (.bin .Sub (.callB .len (.cons (.fld (.var 0) "blocks") .nil)) (.int 1)) .nil)))))) (.nt (.val (.call "is_number" (.cons (.var 2) (.cons (.int 0) (.cons (.bin .Sub (.glob "BLOCKS") (.int 1)) .nil)))))))
  (.cons (.raise "NoBlock")
  .nil)
  .nil)
  .nil)
def spCheckBlock (Cd : Addr) : Sp := fun vs H Q _ => ∃ (a dx pb : Addr) (lv : V) (rows : List V) (pi bl : Nat), vs = [.ref a, .int (pi : Nat), .int (bl : Nat)] ∧ H a = some (.ins Cd dx [("blocks", .ref pb), ("laid", lv)]) ∧ H pb = some (.lst rows) ∧ pi < rows.length ∧ bl < 4 ∧ Q .non H
theorem isNum_yes {i : Nat} {hi : Int} (h : (i : Int) ≤ hi) : isNum (.int (i : Nat)) 0 hi = true := by
  show (decide ((0 : Int) ≤ (i : Int)) && decide ((i : Int) ≤ hi)) = true
  rw [decide_eq_true (by omega), decide_eq_true h]
  rfl
theorem w_check_block {R : Rx} {k : Nat} {Cd f : Addr} {vs : List V} {H : Hp} {Q : VK} {X : XK} (DC : DiskC R.K Cd) (N1 : Has R.toRt k "is_number" f (spIsNum R.K)) (N2 : HasInt R.toRt "BLOCKS" 4) (h : spCheckBlock Cd vs H Q X) :
    wSs R k b_check_block (fun cls d _ H' => X cls d H') { nx := fun _ H' => Q .non H', rt := Q } (L2.start N_check_block vs) H := by
  obtain ⟨a, dx, pb, lv, rows, pi, bl, rfl, ea, eb, h1, h2, hq⟩ := h
  show wSs R k b_check_block _ _ [some (.ref a), some (.int (pi : Nat)), some (.int (bl : Nat))] H
  unfold b_check_block
  walk_at "go"
  refine e_call N1.mg N1.kp ?_
  walk_at "go"
  refine f_ins ea DC.cls (DC.na _ (by decide +kernel)) rfl ?_
  walk_at "go"
  refine i_len (len_l (sq_l eb)) ?_
  walk_at "go"
  refine x_sp N1.ok ⟨_, .int (pi : Nat), 0, _, rfl, .int _, ?_⟩
  rw [isNum_yes (by omega)]
  walk_at "go"
  refine e_call N1.mg N1.kp ?_
  walk_at "go"
  refine e_gint N2 ?_
  walk_at "go"
  refine x_sp N1.ok ⟨_, .int (bl : Nat), 0, _, rfl, .int _, ?_⟩
  rw [isNum_yes (by omega)]
  walk_at "go"
  exact hq
/-- the names of the program that a bench needs -/
structure BN (R : Rx) (k : Nat) (C Cd : Addr) (cls : Str → Addr) : Prop where
  xc : R.xc = none
  k2 : 2 ≤ k
  B : BenchC R.K C
  D : DiskC R.K Cd
  num : ∃ f, Has R.toRt k "is_number" f (spIsNum R.K)
  blk : ∃ f, Has R.toRt k "check_block" f (spCheckBlock Cd)
  fnd : ∃ g, HasM R.toRt k C "_found" g (spFound R.K C (cls "Stopped") (cls "NoDisk"))
  beg : ∃ g, HasM R.toRt k C "_begin_deed" g (spBegin C (cls "Stopped"))
  mx : HasInt R.toRt "MOST_NUMBER" 999
def N_Bench_get : List Str := ["self", "disk", "piece", "block", "found"]
def b_Bench_get : Ss := (.cons (.set 4 (.meth (.var 0) "_found" [] (.cons (.var 1) .nil)))
  (.cons (.exp (.call "check_block" (.cons (.var 4) (.cons (.var 2) (.cons (.var 3) .nil)))))
  (.cons (.ret (.sub (.sub (.fld (.var 4) "blocks") (.var 2)) (.var 3)))
  .nil)))
def N_Bench_put : List Str := ["self", "disk", "piece", "block", "number", "found"]
def b_Bench_put : Ss := (.cons (.set 5 (.meth (.var 0) "_found" [] (.cons (.var 1) .nil)))
  (.cons (.exp (.call "check_block" (.cons (.var 5) (.cons (.var 2) (.cons (.var 3) .nil)))))
  (.cons (.ifs (.nt (.val (.call "is_number" (.cons (.var 4) (.cons (.int 0) (.cons (.glob "MOST_NUMBER") .nil))))))
  (.cons (.raise "BadNumber")
  .nil)
  .nil)
  (.cons (.exp (.meth (.var 0) "_begin_deed" [] .nil))
  (.cons (.setSub (.sub (.fld (.var 5) "blocks") (.var 2)) (.var 3) (.var 4))
  .nil)))))
/-- the refusal ahead of all else; None: there is a disk -/
def goneB (s : Bst) (d : Nat) : Option Str := if s.stop = true then some "Stopped" else match s.disks[d]? with | some (some _) => none | _ => some "NoDisk"
theorem goneB_some {s : Bst} {d : Nat} (h : goneB s d = none) : s.stop = false ∧ ∃ k, s.disks[d]? = some (some k) := by
  unfold goneB at h
  split at h
  · cases h
  · rename_i hs
    refine ⟨by simpa using hs, ?_⟩
    split at h
    · exact ⟨_, by assumption⟩
    · cases h
/-- found: the disk at hand, or a refusal -/
theorem x_found {R : Rx} {k : Nat} {C Cd x dx p g : Addr} {cls : Str → Addr} {s : Bst} {d : Nat} {vs : List V} {l : List HP} {H : Hp} {Q : VK} {E : XK} (N : HasM R.toRt k C "_found" g (spFound R.K C (cls "Stopped") (cls "NoDisk"))) (hd : d < s.disks.length)
    (y : SL (pt x (benchO C dx p s.done (leftV s.left) s.stop) :: pt p (.lst vs) :: All2 (DiskA Cd) vs s.disks :: l) H) (hno : ∀ nm, goneB s d = some nm → Rsd E (cls nm) nm H) (hyes : ∀ a kd, s.stop = false → s.disks[d]? = some (some kd) → vs[d]? = some (.ref a) → Q (.ref a) H) :
    ∃ sp, CallOk R.toRt k g sp ∧ sp [.ref x, .int (d : Nat)] H Q E := by
  have hv : vs.length = s.disks.length := All2.len (y.tail.tail)
  have e := List.getElem?_eq_getElem hd
  obtain ⟨v, hv1, hv2, hv3⟩ := disk_at y.tail.tail e
  refine x_sp N.ok ⟨x, dx, p, _, _, s.stop, vs, _, .int (d : Nat), rfl, SL.get (.head _) y, SL.get (.tail _ (.head _)) y, .int _, fun hs => ?_, fun hs z => ?_, fun i hs hi hn => ?_, fun i u hs hi hu hn => ?_⟩
  · exact hno "Stopped" (by unfold goneB; rw [if_pos hs])
  · rw [isNum_yes (by omega)] at z
    cases z
  · have hi' : d = i := by
      have := PyData.int.inj hi
      omega
    subst hi'
    refine hno "NoDisk" ?_
    unfold goneB
    rw [hs, if_neg Bool.false_ne_true]
    rw [hv1] at hn
    cases hn
    rw [e]
    cases ho : s.disks[d] with
    | none => rfl
    | some kd =>
      obtain ⟨a, z⟩ := hv3 kd ho
      cases z
  · have hi' : d = i := by
      have := PyData.int.inj hi
      omega
    subst hi'
    rw [hv1] at hu
    cases hu
    cases ho : s.disks[d] with
    | none => exact absurd (hv2 ho) hn
    | some kd =>
      obtain ⟨a, rfl⟩ := hv3 kd ho
      exact hyes a kd hs (by rw [e, ho]) hv1
def spGet (C Cd : Addr) (cls : Str → Addr) : Sp := fun vs H Q E => ∃ (x : Addr) (s : Bst) (l : List HP) (d p b : Nat), vs = [.ref x, .int (d : Nat), .int (p : Nat), .int (b : Nat)] ∧ d < s.disks.length ∧ b < 4 ∧ SL (BenchA C Cd x s :: l) H ∧
  (∀ nm, goneB s d = some nm → Rsd E (cls nm) nm H) ∧ (∀ k, s.stop = false → s.disks[d]? = some (some k) → ∃ row n, k.blocks[p]? = some row ∧ row[b]? = some n ∧ Q (.int (n : Nat)) H)
theorem w_get {R : Rx} {k : Nat} {C Cd : Addr} {cls : Str → Addr} {vs : List V} {H : Hp} {Q : VK} {X : XK} (N : BN R k C Cd cls) (h : spGet C Cd cls vs H Q X) :
    wSs R k b_Bench_get (fun cls d _ H' => X cls d H') { nx := fun _ H' => Q .non H', rt := Q } (L2.start N_Bench_get vs) H := by
  obtain ⟨x, s, l, d, p, b, rfl, hd, hb, y, hno, hyes⟩ := h
  obtain ⟨dx, p0, vs, y⟩ := BenchA.out y
  obtain ⟨gf, Nf⟩ := N.fnd
  obtain ⟨fb, Nb⟩ := N.blk
  show wSs R k b_Bench_get _ _ [some (.ref x), some (.int (d : Nat)), some (.int (p : Nat)), some (.int (b : Nat)), none] H
  unfold b_Bench_get
  walk_at "go"
  refine x_own N.xc (SL.get (.head _) y) N.B.cls Nf.me (bench_no (C := C) (dx := dx) (by decide +kernel)) ?_
  walk_at "go"
  refine x_found Nf hd y hno fun a kd hs hk hv => ?_
  obtain ⟨row, n, hr, hn, hq⟩ := hyes kd hs hk
  have y1 := All2.open (xs := vs) hv hk (y.p1 (A := All2 (DiskA Cd) vs s.disks) (by walk_at "pk"))
  obtain ⟨a', dx', bv, lv, ea, y1⟩ := DiskA.out y1
  cases ea
  have y2 := y1.p1 (A := BlocksA bv kd.blocks) (by walk_at "pk")
  obtain ⟨pb, rows, rfl, y2⟩ := BlocksA.out y2
  have hrl : rows.length = kd.blocks.length := All2.len (y2.p1 (by walk_at "pk"))
  have hpl := (List.getElem?_eq_some_iff.mp hr).1
  have hrv := List.getElem?_eq_getElem (l := rows) (i := p) (by omega)
  obtain ⟨r, er, y3⟩ := RowA.out (All2.open hrv hr (y2.p1 (by walk_at "pk")))
  walk_at "go"
  refine e_call Nb.mg Nb.kp ?_
  walk_at "go"
  refine x_sp Nb.ok ⟨a, dx', pb, lv, rows, p, b, rfl, SL.get (by walk_at "mem") y2, SL.get (by walk_at "mem") y2, by omega, hb, ?_⟩
  walk_at "go"
  refine fl_at y2 (by walk_at "mem") N.D.cls (N.D.na _ (by decide +kernel)) rfl ?_
  walk_at "go"
  refine s_at y2 (by walk_at "mem") hrv ?_
  walk_at "go"
  rw [er]
  refine s_at y3 (by walk_at "mem") (v := .int (n : Nat)) (by unfold numsV; rw [List.getElem?_map, hn]; rfl) ?_
  exact hq

end Zw

set_option Elab.async false
set_option linter.all false
set_option maxRecDepth 100000
set_option maxHeartbeats 4000000
namespace Zw
open PySem PySem.Spec PyProof.Rows L2
local macro_rules | `(tactic| walk_at "mem") => `(tactic| (first | exact List.Mem.head _ | (apply List.Mem.tail; walk_at "mem")))
local macro_rules | `(tactic| walk_at "rp") => `(tactic| (first | exact Rp.hd | (apply Rp.tl; walk_at "rp")))
local macro_rules | `(tactic| walk_at "pk") => `(tactic| (first | exact Pk.hd | (apply Pk.tl; walk_at "pk")))
local macro_rules | `(tactic| walk_at "go1") => `(tactic| with_reducible (first
  | refine q_set ?_ | refine q_exp ?_ | refine q_doc ?_ | refine q_pass ?_ | refine q_ret ?_ | refine q_retN ?_ | refine q_brk ?_ | refine q_cont ?_ | refine q_if ?_ | refine q_par ?_ | refine q_setFld ?_ | refine q_setSub ?_ | refine q_for ?_
  | refine e_int ?_ | refine e_str ?_ | refine e_bl ?_ | refine e_non ?_ | refine e_bin ?_ | refine e_neg ?_ | refine e_nt ?_ | refine e_cmp ?_ | refine e_chain ?_ | refine e_and ?_ | refine e_or ?_ | refine e_ife ?_ | refine e_fld ?_ | refine e_sub ?_ | refine e_tup ?_ | refine e_lst ?_ | refine e_bi ?_ | refine e_meth ?_
  | refine es_nil ?_ | refine es_cons ?_ | refine t_yes ?_ | refine t_nt ?_ | refine t_and ?_ | refine t_or ?_ | refine t_cmp ?_ | refine t_val ?_ | refine i_seq ?_ | refine i_rng ?_
  | refine x_bl ?_ | refine x_in ?_ | refine tr_bl ?_ | refine tr_int ?_ | refine tr_non ?_
  | refine b_add ?_ | refine b_sub ?_ | refine c_lt ?_ | refine c_le ?_ | refine c_gt ?_ | refine c_ge ?_ | refine c_is ?_ | refine c_isnt ?_ | refine i_intB ?_ | refine c_eqI ?_ | refine c_neI ?_ | refine c_eqB ?_ | refine c_neB ?_ | refine c_eqS ?_ | refine q_nil ?_ | refine x_itt ?_ | refine x_iff ?_))
local macro_rules | `(tactic| walk_at "go2") => `(tactic| (first
  | ((with_reducible refine' e_var ?hg ?hh); (case hg => rfl))
  | ((with_reducible refine' s_0 ?hx ?hm ?hg ?hh); (case hx => assumption); (case hm => walk_at "mem"); (case hg => rfl))
  | ((with_reducible refine' s_1 ?hx ?hm ?hg ?hh); (case hx => assumption); (case hm => walk_at "mem"); (case hg => rfl))
  | ((with_reducible refine' s_2 ?hx ?hm ?hg ?hh); (case hx => assumption); (case hm => walk_at "mem"); (case hg => rfl))
  | ((with_reducible refine' p_0 ?hx ?hr ?hb ?hh); (case hx => assumption); (case hr => walk_at "rp"); (case hb => first | (simp; done) | decide); intros)
  | ((with_reducible refine' p_1 ?hx ?hr ?hb ?hh); (case hx => assumption); (case hr => walk_at "rp"); (case hb => first | (simp; done) | decide); intros)
  | ((with_reducible refine' n_lst ?hx ?hb ?hh); (case hx => assumption); (case hb => first | decide | (simp only [List.length_cons, List.length_nil]; decide)); intros)
  | ((with_reducible refine' n_tup ?hx ?hb ?hh); (case hx => assumption); (case hb => first | decide | (simp only [List.length_cons, List.length_nil]; decide)); intros)))
local macro_rules | `(tactic| walk_at "go") => `(tactic| repeat (first | walk_at "go1" | walk_at "go2"))
local macro_rules | `(tactic| walk_at "go2") => `(tactic| (first
  | ((with_reducible refine' e_ty ?hg ?hh); (case hg => rfl))
  | ((with_reducible refine' isi_dp ok_bl ?hx ?hh); (case hx => assumption))
  | ((with_reducible refine' isi_dp ok_int ?hx ?hh); (case hx => assumption))
  | ((with_reducible refine' isi_dp ok_str ?hx ?hh); (case hx => assumption))
  | ((with_reducible refine' isi_dp ok_tup ?hx ?hh); (case hx => assumption))
  | ((with_reducible refine' isi_dp ok_lst ?hx ?hh); (case hx => assumption))
  | ((with_reducible refine' x_dt ?hc ?hh); (case hc => rfl))
  | ((with_reducible refine' x_df ?hc ?hh); (case hc => rfl))))
section
variable {α β : Type _} {A : α → β → HP} {xs : List α} {ys : List β} {l : List HP} {H : Hp} {j : Nat}
theorem All2.closeR {a : α} {b : β} (ha : xs[j]? = some a) (x : SL (A a b :: Hole A xs ys j :: l) H) : SL (All2 A xs (ys.set j b) :: l) H := by
  obtain ⟨i1, e1⟩ := List.getElem?_eq_some_iff.mp ha
  have := All2.close (xs := xs) (ys := ys) (a := a) (b := b) i1 x
  rw [show xs.set j a = xs by rw [← e1, List.set_getElem_self]] at this
  exact this
end
theorem x_begin {R : Rx} {k : Nat} {C x dx p g : Addr} {cls : Str → Addr} {left : Option Nat} {done : Nat} {l : List HP} {H : Hp} {Q : VK} {E : XK} (N : HasM R.toRt k C "_begin_deed" g (spBegin C (cls "Stopped")))
    (y : SL (pt x (benchO C dx p done (leftV left) false) :: l) H) (hyes : ∀ left', (left = none ∧ left' = none ∨ ∃ m, left = some (m + 1) ∧ left' = some m) → ∀ H', SL (pt x (benchO C dx p ((done + 1 : Nat) : Int) (leftV left') false) :: l) H' → Q .non H')
    (hno : left = some 0 → ∀ H', SL (pt x (benchO C dx p done (leftV left) true) :: l) H' → Rsd E (cls "Stopped") "Stopped" H') : ∃ sp, CallOk R.toRt k g sp ∧ sp [.ref x] H Q E := by
  refine x_sp N.ok ⟨x, dx, p, _, _, l, rfl, y, ?_⟩
  match left, hyes, hno with
  | none, hyes, _ => exact .inl ⟨rfl, fun H' z => hyes none (.inl ⟨rfl, rfl⟩) H' z⟩
  | some 0, _, hno => exact .inr (.inr ⟨rfl, fun H' z => hno rfl H' z⟩)
  | some (m + 1), hyes, _ =>
    refine .inr (.inl ⟨((m + 1 : Nat) : Int), rfl, by omega, fun H' z => hyes (some m) (.inr ⟨m, rfl, rfl⟩) H' ?_⟩)
    have e : (((m + 1 : Nat) : Int) - 1) = ((m : Nat) : Int) := by omega
    rw [e] at z
    exact z
theorem deedB_gone {s : Bst} {d : Nat} {f : Dk → Dk} {nm : Str} (h : goneB s d = some nm) : deedB s d f = (s, some nm) := by
  unfold goneB at h
  unfold deedB
  split at h
  · rw [if_pos (by assumption)]
    exact congrArg _ h
  · rw [if_neg (by assumption)]
    split at h
    · cases h
    · cases h
      rfl
theorem deedB_yes {s : Bst} {d : Nat} {f : Dk → Dk} {k : Dk} {left' : Option Nat} (hs : s.stop = false) (hk : s.disks[d]? = some (some k)) (h : s.left = none ∧ left' = none ∨ ∃ m, s.left = some (m + 1) ∧ left' = some m) :
    deedB s d f = (⟨s.disks.set d (some (f k)), left', false, s.done + 1⟩, none) := by
  obtain ⟨ds, lf, st, dn⟩ := s
  simp only at hs hk h
  subst hs
  unfold deedB
  rw [if_neg Bool.false_ne_true]
  rcases h with ⟨rfl, rfl⟩ | ⟨m, rfl, rfl⟩ <;> simp only [hk]
theorem deedB_end {s : Bst} {d : Nat} {f : Dk → Dk} {k : Dk} (hs : s.stop = false) (hk : s.disks[d]? = some (some k)) (h : s.left = some 0) : deedB s d f = (({ s with stop := true } : Bst), some ("Stopped" : Str)) := by
  obtain ⟨ds, lf, st, dn⟩ := s
  simp only at hs hk h
  subst hs
  subst h
  unfold deedB
  rw [if_neg Bool.false_ne_true]
  simp only [hk]
def spPut (C Cd : Addr) (cls : Str → Addr) : Sp := fun vs H Q E => ∃ (x : Addr) (s : Bst) (l : List HP) (d p b w : Nat), vs = [.ref x, .int (d : Nat), .int (p : Nat), .int (b : Nat), .int (w : Nat)] ∧ d < s.disks.length ∧ b < 4 ∧ w ≤ 999 ∧ (∀ k, s.disks[d]? = some (some k) → ∃ row, k.blocks[p]? = some row ∧ row.length = 4) ∧
  SL (BenchA C Cd x s :: l) H ∧ ∀ H', SL (BenchA C Cd x (deedB s d (putD p b w)).1 :: l) H' → Ans cls Q E .non (deedB s d (putD p b w)).2 H'
theorem w_put {R : Rx} {k : Nat} {C Cd : Addr} {cls : Str → Addr} {vs : List V} {H : Hp} {Q : VK} {X : XK} (N : BN R k C Cd cls) (h : spPut C Cd cls vs H Q X) :
    wSs R k b_Bench_put (fun cls d _ H' => X cls d H') { nx := fun _ H' => Q .non H', rt := Q } (L2.start N_Bench_put vs) H := by
  obtain ⟨x, s, l, d, p, b, w, rfl, hd, hb, hw, hrow, y0, ht⟩ := h
  obtain ⟨dx, p0, vs, y⟩ := BenchA.out y0
  obtain ⟨gf, Nf⟩ := N.fnd
  obtain ⟨gb, Ng⟩ := N.beg
  obtain ⟨fb, Nb⟩ := N.blk
  obtain ⟨fn, Nn⟩ := N.num
  show wSs R k b_Bench_put _ _ [some (.ref x), some (.int (d : Nat)), some (.int (p : Nat)), some (.int (b : Nat)), some (.int (w : Nat)), none] H
  unfold b_Bench_put
  walk_at "go"
  refine x_own N.xc (SL.get (.head _) y) N.B.cls Nf.me (bench_no (C := C) (dx := dx) (by decide +kernel)) ?_
  walk_at "go"
  refine x_found Nf hd y (fun nm hg => ?_) fun a kd hs hk hv => ?_
  · rw [deedB_gone hg] at ht
    exact ht H y0
  obtain ⟨row, hr, hrl4⟩ := hrow kd hk
  have y1 := All2.open (xs := vs) hv hk (y.p1 (A := All2 (DiskA Cd) vs s.disks) (by walk_at "pk"))
  obtain ⟨a', dx', bv, lv, ea, y1⟩ := DiskA.out y1
  cases ea
  have y2 := y1.p1 (A := BlocksA bv kd.blocks) (by walk_at "pk")
  obtain ⟨pb, rows, rfl, y2⟩ := BlocksA.out y2
  have hrl : rows.length = kd.blocks.length := All2.len (y2.p1 (by walk_at "pk"))
  have hpl := (List.getElem?_eq_some_iff.mp hr).1
  have hrv := List.getElem?_eq_getElem (l := rows) (i := p) (by omega)
  obtain ⟨r, er, y3⟩ := RowA.out (All2.open hrv hr (y2.p1 (by walk_at "pk")))
  rw [er] at hrv
  walk_at "go"
  refine e_call Nb.mg Nb.kp ?_
  walk_at "go"
  refine x_sp Nb.ok ⟨a, dx', pb, lv, rows, p, b, rfl, SL.get (by walk_at "mem") y3, SL.get (by walk_at "mem") y3, by omega, hb, ?_⟩
  walk_at "go"
  refine e_call Nn.mg Nn.kp ?_
  walk_at "go"
  refine e_gint N.mx ?_
  walk_at "go"
  refine x_sp Nn.ok ⟨_, .int (w : Nat), 0, _, rfl, .int _, ?_⟩
  rw [isNum_yes (by omega)]
  walk_at "go"
  have yx := SL.p1 (A := pt x (benchO C dx p0 s.done (leftV s.left) s.stop)) y3 (by walk_at "pk")
  refine x_own N.xc (SL.get (.head _) yx) N.B.cls Ng.me (bench_no (C := C) (dx := dx) (by decide +kernel)) ?_
  walk_at "go"
  rw [hs] at yx
  refine x_begin (cls := cls) Ng yx (fun left' hl H1 z => ?_) fun hl H1 z => ?_
  · walk_at "go"
    refine fl_at z (by walk_at "mem") N.D.cls (N.D.na _ (by decide +kernel)) rfl ?_
    walk_at "go"
    refine s_at z (by walk_at "mem") hrv ?_
    walk_at "go"
    refine p_lst z (xs := numsV row) (l' := _) (by walk_at "rp") (by unfold numsV; simp; omega) fun H2 z2 => ?_
    walk_at "go"
    rw [deedB_yes hs hk hl] at ht
    refine ht H2 ?_
    have e : (numsV row).set b (.int (w : Nat)) = numsV (row.set b w) := by unfold numsV; rw [List.map_set]
    rw [e] at z2
    have z3 := RowA.mk (SL.p1 (A := pt r (.lst (numsV (row.set b w)))) z2 (by walk_at "pk"))
    have z4 := All2.closeR hrv (SL.p2 (A := RowA (.ref r) (row.set b w)) (B := Hole RowA rows kd.blocks p) z3 (by walk_at "pk") (by walk_at "pk"))
    have z5 := BlocksA.mk (SL.p2 (A := pt pb (.lst rows)) (B := All2 RowA rows (kd.blocks.set p (row.set b w))) z4 (by walk_at "pk") (by walk_at "pk"))
    have ek : (putD p b w kd) = { kd with blocks := kd.blocks.set p (row.set b w) } := by unfold putD; rw [hr]; rfl
    have z6 := DiskA.mk (k := putD p b w kd) (Cd := Cd) (dx := dx') (a := a) (bv := .ref pb) (lv := lv) (by
      rw [ek]
      exact SL.p3 (A := pt a (.ins Cd dx' [("blocks", .ref pb), ("laid", lv)])) (B := BlocksA (.ref pb) (kd.blocks.set p (row.set b w))) (C := TupA lv kd.laid) z5 (by walk_at "pk") (by walk_at "pk") (by walk_at "pk"))
    have z7 := All2.closeR hv (SL.p2 (A := DiskA Cd (.ref a) (some (putD p b w kd))) (B := Hole (DiskA Cd) vs s.disks d) z6 (by walk_at "pk") (by walk_at "pk"))
    exact BenchA.mk (dx := dx) (p := p0) (SL.p3 z7 (by walk_at "pk") (by walk_at "pk") (by walk_at "pk"))
  · rw [deedB_end hs hk hl] at ht
    refine ht H1 ?_
    have z3 := RowA.mk (SL.p1 (A := pt r (.lst (numsV row))) z (by walk_at "pk"))
    have z4 := All2.close' hrv hr (SL.p2 (A := RowA (.ref r) row) (B := Hole RowA rows kd.blocks p) z3 (by walk_at "pk") (by walk_at "pk"))
    have z5 := BlocksA.mk (SL.p2 (A := pt pb (.lst rows)) (B := All2 RowA rows kd.blocks) z4 (by walk_at "pk") (by walk_at "pk"))
    have z6 := DiskA.mk (k := kd) (Cd := Cd) (dx := dx') (a := a) (bv := .ref pb) (lv := lv) (SL.p3 (A := pt a (.ins Cd dx' [("blocks", .ref pb), ("laid", lv)])) (B := BlocksA (.ref pb) kd.blocks) (C := TupA lv kd.laid) z5 (by walk_at "pk") (by walk_at "pk") (by walk_at "pk"))
    have z7 := All2.close' hv hk (SL.p2 (A := DiskA Cd (.ref a) (some kd)) (B := Hole (DiskA Cd) vs s.disks d) z6 (by walk_at "pk") (by walk_at "pk"))
    exact BenchA.mk (dx := dx) (p := p0) (SL.p3 z7 (by walk_at "pk") (by walk_at "pk") (by walk_at "pk"))

end Zw

set_option Elab.async false
set_option linter.all false
set_option maxRecDepth 100000
set_option maxHeartbeats 4000000
namespace Zw
open PySem PySem.Spec PyProof.Rows L2
local macro_rules | `(tactic| walk_at "mem") => `(tactic| (first | exact List.Mem.head _ | (apply List.Mem.tail; walk_at "mem")))
local macro_rules | `(tactic| walk_at "rp") => `(tactic| (first | exact Rp.hd | (apply Rp.tl; walk_at "rp")))
local macro_rules | `(tactic| walk_at "pk") => `(tactic| (first | exact Pk.hd | (apply Pk.tl; walk_at "pk")))
local macro_rules | `(tactic| walk_at "go1") => `(tactic| with_reducible (first
  | refine q_set ?_ | refine q_exp ?_ | refine q_doc ?_ | refine q_pass ?_ | refine q_ret ?_ | refine q_retN ?_ | refine q_brk ?_ | refine q_cont ?_ | refine q_if ?_ | refine q_par ?_ | refine q_setFld ?_ | refine q_setSub ?_ | refine q_for ?_
  | refine e_int ?_ | refine e_str ?_ | refine e_bl ?_ | refine e_non ?_ | refine e_bin ?_ | refine e_neg ?_ | refine e_nt ?_ | refine e_cmp ?_ | refine e_chain ?_ | refine e_and ?_ | refine e_or ?_ | refine e_ife ?_ | refine e_fld ?_ | refine e_sub ?_ | refine e_tup ?_ | refine e_lst ?_ | refine e_bi ?_ | refine e_meth ?_
  | refine es_nil ?_ | refine es_cons ?_ | refine t_yes ?_ | refine t_nt ?_ | refine t_and ?_ | refine t_or ?_ | refine t_cmp ?_ | refine t_val ?_ | refine i_seq ?_ | refine i_rng ?_
  | refine x_bl ?_ | refine x_in ?_ | refine tr_bl ?_ | refine tr_int ?_ | refine tr_non ?_
  | refine b_add ?_ | refine b_sub ?_ | refine c_lt ?_ | refine c_le ?_ | refine c_gt ?_ | refine c_ge ?_ | refine c_is ?_ | refine c_isnt ?_ | refine i_intB ?_ | refine c_eqI ?_ | refine c_neI ?_ | refine c_eqB ?_ | refine c_neB ?_ | refine c_eqS ?_ | refine q_nil ?_ | refine x_itt ?_ | refine x_iff ?_))
local macro_rules | `(tactic| walk_at "go2") => `(tactic| (first
  | ((with_reducible refine' e_var ?hg ?hh); (case hg => rfl))
  | ((with_reducible refine' s_0 ?hx ?hm ?hg ?hh); (case hx => assumption); (case hm => walk_at "mem"); (case hg => rfl))
  | ((with_reducible refine' s_1 ?hx ?hm ?hg ?hh); (case hx => assumption); (case hm => walk_at "mem"); (case hg => rfl))
  | ((with_reducible refine' s_2 ?hx ?hm ?hg ?hh); (case hx => assumption); (case hm => walk_at "mem"); (case hg => rfl))
  | ((with_reducible refine' p_0 ?hx ?hr ?hb ?hh); (case hx => assumption); (case hr => walk_at "rp"); (case hb => first | (simp; done) | decide); intros)
  | ((with_reducible refine' p_1 ?hx ?hr ?hb ?hh); (case hx => assumption); (case hr => walk_at "rp"); (case hb => first | (simp; done) | decide); intros)
  | ((with_reducible refine' n_lst ?hx ?hb ?hh); (case hx => assumption); (case hb => first | decide | (simp only [List.length_cons, List.length_nil]; decide)); intros)
  | ((with_reducible refine' n_tup ?hx ?hb ?hh); (case hx => assumption); (case hb => first | decide | (simp only [List.length_cons, List.length_nil]; decide)); intros)))
local macro_rules | `(tactic| walk_at "go") => `(tactic| repeat (first | walk_at "go1" | walk_at "go2"))
local macro_rules | `(tactic| walk_at "go2") => `(tactic| (first
  | ((with_reducible refine' e_ty ?hg ?hh); (case hg => rfl))
  | ((with_reducible refine' isi_dp ok_bl ?hx ?hh); (case hx => assumption))
  | ((with_reducible refine' isi_dp ok_int ?hx ?hh); (case hx => assumption))
  | ((with_reducible refine' isi_dp ok_str ?hx ?hh); (case hx => assumption))
  | ((with_reducible refine' isi_dp ok_tup ?hx ?hh); (case hx => assumption))
  | ((with_reducible refine' isi_dp ok_lst ?hx ?hh); (case hx => assumption))
  | ((with_reducible refine' x_dt ?hc ?hh); (case hc => rfl))
  | ((with_reducible refine' x_df ?hc ?hh); (case hc => rfl))))
theorem SL.p6 {A B C D E F : HP} {l r r2 r3 r4 r5 r6 : List HP} {H : Hp} (x : SL l H) (p : Pk A l r) (q : Pk B r r2) (s : Pk C r2 r3) (t : Pk D r3 r4) (u : Pk E r4 r5) (v : Pk F r5 r6) : SL (A :: B :: C :: D :: E :: F :: r6) H := x.pks (as := [A, B, C, D, E, F]) (.cons p (.cons q (.cons s (.cons t (.cons u (.cons v .nil))))))
/-! ### copies -/
mutual
def costD : PyData → Nat
  | .tuple ds => 2 + costs ds
  | _ => 1
def costs : List PyData → Nat
  | [] => 0
  | d :: r => costD d + costs r
end
def Small (d : PyData) : Prop := costD d ≤ 500 ∧ szB d = true
def spCopied : Sp := fun vs H Q _ => ∃ v d l, vs = [v] ∧ SL (TupA v d :: l) H ∧ Small d ∧ ∀ v' H', SL (TupA v' d :: TupA v d :: l) H' → Q v' H'
def layD (sd : PyData) (k : Dk) : Dk := { k with laid := sd }
/-- a disk closed again, in a bench -/
theorem bench_put {C Cd x dx p0 a dx' : Addr} {s : Bst} {d : Nat} {k' : Dk} {bv lv : V} {vs : List V} {lf : Option Nat} {st : Bool} {dn : Nat} {l : List HP} {H : Hp} (hv : vs[d]? = some (.ref a))
    (y : SL (BlocksA bv k'.blocks :: TupA lv k'.laid :: pt a (.ins Cd dx' [("blocks", bv), ("laid", lv)]) :: Hole (DiskA Cd) vs s.disks d :: pt x (benchO C dx p0 dn (leftV lf) st) :: pt p0 (.lst vs) :: l) H) : SL (BenchA C Cd x ⟨s.disks.set d (some k'), lf, st, dn⟩ :: l) H := by
  have z6 := DiskA.mk (k := k') (SL.p3 (A := pt a (.ins Cd dx' [("blocks", bv), ("laid", lv)])) (B := BlocksA bv k'.blocks) (C := TupA lv k'.laid) y (by walk_at "pk") (by walk_at "pk") (by walk_at "pk"))
  have z7 := All2.closeR hv (SL.p2 (A := DiskA Cd (.ref a) (some k')) (B := Hole (DiskA Cd) vs s.disks d) z6 (by walk_at "pk") (by walk_at "pk"))
  exact BenchA.mk (dx := dx) (p := p0) (SL.p3 z7 (by walk_at "pk") (by walk_at "pk") (by walk_at "pk"))
theorem set_same {α : Type _} {l : List α} {d : Nat} {a : α} (h : l[d]? = some a) : l.set d a = l := by
  obtain ⟨i1, e1⟩ := List.getElem?_eq_some_iff.mp h
  rw [← e1, List.set_getElem_self]
section
variable {R : Rx} {k : Nat} {C Cd : Addr} {cls : Str → Addr} {vs : List V} {H : Hp} {Q : VK} {X : XK}
def b_Bench_lay : Ss := (.cons (.set 3 (.meth (.var 0) "_found" [] (.cons (.var 1) .nil)))
  (.cons (.exp (.meth (.var 0) "_begin_deed" [] .nil))
  (.cons (.setFld (.var 3) "laid" (.call "copied" (.cons (.var 2) .nil)))
  .nil)))
def N_Bench_lay : List Str := ["self", "disk", "sheet", "found"]
def spLay (C Cd : Addr) (cls : Str → Addr) : Sp := fun vs H Q E => ∃ (x : Addr) (s : Bst) (l : List HP) (d : Nat) (v : V) (sd : PyData), vs = [.ref x, .int (d : Nat), v] ∧ d < s.disks.length ∧ Small sd ∧
  SL (TupA v sd :: BenchA C Cd x s :: l) H ∧ ∀ H', SL (BenchA C Cd x (deedB s d (layD sd)).1 :: l) H' → Ans cls Q E .non (deedB s d (layD sd)).2 H'
theorem w_lay {fc : Addr} (N : BN R k C Cd cls) (Nc : Has R.toRt k "copied" fc spCopied) (h : spLay C Cd cls vs H Q X) :
    wSs R k b_Bench_lay (fun cls d _ H' => X cls d H') { nx := fun _ H' => Q .non H', rt := Q } (L2.start N_Bench_lay vs) H := by
  obtain ⟨x, s, l, d, v, sd, rfl, hd, hsm, y0, ht⟩ := h
  obtain ⟨dx, p0, vs, y⟩ := BenchA.out y0.swap
  obtain ⟨gf, Nf⟩ := N.fnd
  obtain ⟨gb, Ng⟩ := N.beg
  show wSs R k b_Bench_lay _ _ [some (.ref x), some (.int (d : Nat)), some v, none] H
  unfold b_Bench_lay
  walk_at "go"
  refine x_own N.xc (SL.get (.head _) y) N.B.cls Nf.me (bench_no (C := C) (dx := dx) (by decide +kernel)) ?_
  walk_at "go"
  refine x_found Nf hd y (fun nm hg => ?_) fun a kd hs hk hv => ?_
  · rw [deedB_gone hg] at ht
    exact ht H y0.tail
  have y1 := All2.open (xs := vs) hv hk (y.p1 (A := All2 (DiskA Cd) vs s.disks) (by walk_at "pk"))
  obtain ⟨a', dx', bv, lv, ea, y1⟩ := DiskA.out y1
  cases ea
  walk_at "go"
  have yx := SL.p1 (A := pt x (benchO C dx p0 s.done (leftV s.left) s.stop)) y1 (by walk_at "pk")
  refine x_own N.xc (SL.get (.head _) yx) N.B.cls Ng.me (bench_no (C := C) (dx := dx) (by decide +kernel)) ?_
  walk_at "go"
  rw [hs] at yx
  refine x_begin (cls := cls) Ng yx (fun left' hl H1 z => ?_) fun hl H1 z => ?_
  · walk_at "go"
    refine e_call Nc.mg Nc.kp ?_
    walk_at "go"
    refine x_sp Nc.ok ⟨v, sd, _, rfl, SL.p1 (A := TupA v sd) z (by walk_at "pk"), hsm, fun v' H2 z2 => ?_⟩
    walk_at "go"
    refine p_fld (p := a) (fs := [("blocks", bv), ("laid", lv)]) z2 N.D.cls (N.D.na _ (by decide +kernel)) (show (2 : Nat) < 1000 by decide) (by walk_at "rp") fun H3 z3 => ?_
    walk_at "go"
    rw [deedB_yes hs hk hl] at ht
    refine ht H3 (bench_put (x := x) (C := C) (dx := dx) (p0 := p0) (dx' := dx') (bv := bv) (lv := v') hv ?_)
    exact (SL.p4 (A := BlocksA bv kd.blocks) (B := TupA v' sd) (C := pt a (.ins Cd dx' [("blocks", bv), ("laid", v')])) (D := Hole (DiskA Cd) vs s.disks d) (z3.drop (A := TupA v sd) (by walk_at "pk") |>.drop (A := TupA lv kd.laid) (by walk_at "pk")) (by walk_at "pk") (by walk_at "pk") (by walk_at "pk") (by walk_at "pk"))
  · rw [deedB_end hs hk hl] at ht
    refine ht H1 ?_
    have z2 := bench_put (C := C) (k' := kd) hv (SL.p4 (A := BlocksA bv kd.blocks) (B := TupA lv kd.laid) (C := pt a (.ins Cd dx' [("blocks", bv), ("laid", lv)])) (D := Hole (DiskA Cd) vs s.disks d) (z.drop (A := TupA v sd) (by walk_at "pk")) (by walk_at "pk") (by walk_at "pk") (by walk_at "pk") (by walk_at "pk"))
    rw [set_same hk] at z2
    exact z2
def N_Bench_sheet : List Str := ["self", "disk"]
def b_Bench_sheet : Ss := (.cons (.ret (.call "copied" (.cons (.fld (.meth (.var 0) "_found" [] (.cons (.var 1) .nil)) "laid") .nil)))
  .nil)
def spSheet (C Cd : Addr) (cls : Str → Addr) : Sp := fun vs H Q E => ∃ (x : Addr) (s : Bst) (l : List HP) (d : Nat), vs = [.ref x, .int (d : Nat)] ∧ d < s.disks.length ∧ SL (BenchA C Cd x s :: l) H ∧
  (∀ nm, goneB s d = some nm → Rsd E (cls nm) nm H) ∧ (∀ k, s.stop = false → s.disks[d]? = some (some k) → Small k.laid ∧ ∀ v H', SL (TupA v k.laid :: BenchA C Cd x s :: l) H' → Q v H')
theorem w_sheet {fc : Addr} (N : BN R k C Cd cls) (Nc : Has R.toRt k "copied" fc spCopied) (h : spSheet C Cd cls vs H Q X) :
    wSs R k b_Bench_sheet (fun cls d _ H' => X cls d H') { nx := fun _ H' => Q .non H', rt := Q } (L2.start N_Bench_sheet vs) H := by
  obtain ⟨x, s, l, d, rfl, hd, y0, hno, hyes⟩ := h
  obtain ⟨dx, p0, vs, y⟩ := BenchA.out y0
  obtain ⟨gf, Nf⟩ := N.fnd
  show wSs R k b_Bench_sheet _ _ [some (.ref x), some (.int (d : Nat))] H
  unfold b_Bench_sheet
  walk_at "go"
  refine e_call Nc.mg Nc.kp ?_
  walk_at "go"
  refine x_own N.xc (SL.get (.head _) y) N.B.cls Nf.me (bench_no (C := C) (dx := dx) (by decide +kernel)) ?_
  walk_at "go"
  refine x_found Nf hd y hno fun a kd hs hk hv => ?_
  obtain ⟨hsm, hq⟩ := hyes kd hs hk
  have y1 := All2.open (xs := vs) hv hk (y.p1 (A := All2 (DiskA Cd) vs s.disks) (by walk_at "pk"))
  obtain ⟨a', dx', bv, lv, ea, y1⟩ := DiskA.out y1
  cases ea
  walk_at "go"
  refine fl_at y1 (by walk_at "mem") N.D.cls (N.D.na _ (by decide +kernel)) rfl ?_
  walk_at "go"
  refine x_sp Nc.ok ⟨lv, kd.laid, _, rfl, SL.p1 (A := TupA lv kd.laid) y1 (by walk_at "pk"), hsm, fun v' H2 z => hq v' H2 ?_⟩
  have z2 := bench_put (x := x) (C := C) (dx := dx) (p0 := p0) (dx' := dx') (bv := bv) (lv := lv) (k' := kd) hv (SL.p6 (A := BlocksA bv kd.blocks) (B := TupA lv kd.laid) (C := pt a (.ins Cd dx' [("blocks", bv), ("laid", lv)])) (D := Hole (DiskA Cd) vs s.disks d) (E := pt x (benchO C dx p0 s.done (leftV s.left) s.stop)) (F := pt p0 (.lst vs)) z (by walk_at "pk") (by walk_at "pk") (by walk_at "pk") (by walk_at "pk") (by walk_at "pk") (by walk_at "pk"))
  rw [set_same hk] at z2
  exact SL.p1 (A := TupA v' kd.laid) z2 (by walk_at "pk")
end

end Zw

set_option Elab.async false
set_option linter.all false
set_option maxRecDepth 100000
set_option maxHeartbeats 4000000
namespace Zw
open PySem PySem.Spec PyProof.Rows L2
local macro_rules | `(tactic| walk_at "mem") => `(tactic| (first | exact List.Mem.head _ | (apply List.Mem.tail; walk_at "mem")))
local macro_rules | `(tactic| walk_at "rp") => `(tactic| (first | exact Rp.hd | (apply Rp.tl; walk_at "rp")))
local macro_rules | `(tactic| walk_at "pk") => `(tactic| (first | exact Pk.hd | (apply Pk.tl; walk_at "pk")))
local macro_rules | `(tactic| walk_at "go1") => `(tactic| with_reducible (first
  | refine q_set ?_ | refine q_exp ?_ | refine q_doc ?_ | refine q_pass ?_ | refine q_ret ?_ | refine q_retN ?_ | refine q_brk ?_ | refine q_cont ?_ | refine q_if ?_ | refine q_par ?_ | refine q_setFld ?_ | refine q_setSub ?_ | refine q_for ?_
  | refine e_int ?_ | refine e_str ?_ | refine e_bl ?_ | refine e_non ?_ | refine e_bin ?_ | refine e_neg ?_ | refine e_nt ?_ | refine e_cmp ?_ | refine e_chain ?_ | refine e_and ?_ | refine e_or ?_ | refine e_ife ?_ | refine e_fld ?_ | refine e_sub ?_ | refine e_tup ?_ | refine e_lst ?_ | refine e_bi ?_ | refine e_meth ?_
  | refine es_nil ?_ | refine es_cons ?_ | refine t_yes ?_ | refine t_nt ?_ | refine t_and ?_ | refine t_or ?_ | refine t_cmp ?_ | refine t_val ?_ | refine i_seq ?_ | refine i_rng ?_
  | refine x_bl ?_ | refine x_in ?_ | refine tr_bl ?_ | refine tr_int ?_ | refine tr_non ?_
  | refine b_add ?_ | refine b_sub ?_ | refine c_lt ?_ | refine c_le ?_ | refine c_gt ?_ | refine c_ge ?_ | refine c_is ?_ | refine c_isnt ?_ | refine i_intB ?_ | refine c_eqI ?_ | refine c_neI ?_ | refine c_eqB ?_ | refine c_neB ?_ | refine c_eqS ?_ | refine q_nil ?_ | refine x_itt ?_ | refine x_iff ?_))
local macro_rules | `(tactic| walk_at "go2") => `(tactic| (first
  | ((with_reducible refine' e_var ?hg ?hh); (case hg => rfl))
  | ((with_reducible refine' s_0 ?hx ?hm ?hg ?hh); (case hx => assumption); (case hm => walk_at "mem"); (case hg => rfl))
  | ((with_reducible refine' s_1 ?hx ?hm ?hg ?hh); (case hx => assumption); (case hm => walk_at "mem"); (case hg => rfl))
  | ((with_reducible refine' s_2 ?hx ?hm ?hg ?hh); (case hx => assumption); (case hm => walk_at "mem"); (case hg => rfl))
  | ((with_reducible refine' p_0 ?hx ?hr ?hb ?hh); (case hx => assumption); (case hr => walk_at "rp"); (case hb => first | (simp; done) | decide); intros)
  | ((with_reducible refine' p_1 ?hx ?hr ?hb ?hh); (case hx => assumption); (case hr => walk_at "rp"); (case hb => first | (simp; done) | decide); intros)
  | ((with_reducible refine' n_lst ?hx ?hb ?hh); (case hx => assumption); (case hb => first | decide | (simp only [List.length_cons, List.length_nil]; decide)); intros)
  | ((with_reducible refine' n_tup ?hx ?hb ?hh); (case hx => assumption); (case hb => first | decide | (simp only [List.length_cons, List.length_nil]; decide)); intros)))
local macro_rules | `(tactic| walk_at "go") => `(tactic| repeat (first | walk_at "go1" | walk_at "go2"))
local macro_rules | `(tactic| walk_at "go2") => `(tactic| (first
  | ((with_reducible refine' e_ty ?hg ?hh); (case hg => rfl))
  | ((with_reducible refine' isi_dp ok_bl ?hx ?hh); (case hx => assumption))
  | ((with_reducible refine' isi_dp ok_int ?hx ?hh); (case hx => assumption))
  | ((with_reducible refine' isi_dp ok_str ?hx ?hh); (case hx => assumption))
  | ((with_reducible refine' isi_dp ok_tup ?hx ?hh); (case hx => assumption))
  | ((with_reducible refine' isi_dp ok_lst ?hx ?hh); (case hx => assumption))
  | ((with_reducible refine' x_dt ?hc ?hh); (case hc => rfl))
  | ((with_reducible refine' x_df ?hc ?hh); (case hc => rfl))))
theorem SL.made {C x dx : Addr} {l : List HP} {H : Hp} (y : SL l H) (hx : H x = none) (hd : H dx = none) (n : dx ≠ x) : SL (pt x (.ins C dx []) :: l) (upd (upd H dx (.own x)) x (.ins C dx [])) := by
  refine (y.new (.own x) hd).tail.new _ ?_
  rw [upd_ne (Ne.symm n)]
  exact hx
theorem made_disk {Cd : Addr} {n : Nat} {l : List HP} {H : Hp} {Q : VK} {E : XK} (hn : n ≤ 12) (y : SL l H) (h : ∀ a H', SL (DiskA Cd (.ref a) (some (freshDk n)) :: l) H' → Q (.ref a) H') : spMake Cd (spDiskInit Cd) [.int (n : Nat)] H Q E :=
  fun x dx hx hd ne => ⟨x, dx, n, l, rfl, hn, y.made hx hd ne, fun H' z => ⟨rfl, h x H' z⟩⟩
theorem All2.put {α β : Type _} {A : α → β → HP} {xs : List α} {ys : List β} {l : List HP} {H : Hp} {j : Nat} {a : α} {b : β} (hj : j < xs.length) (y : SL (All2 A xs ys :: A a b :: l) H) : SL (All2 A (xs.set j a) (ys.set j b) :: l) H := by
  have e1 := List.getElem?_eq_getElem hj
  have hj2 : j < ys.length := by rw [← All2.len y]; exact hj
  have z := SL.drop .hd (All2.open e1 (List.getElem?_eq_getElem hj2) y)
  exact All2.close hj z.swap
/-- a disk that may come here -/
def comeB (s : Bst) (d : Nat) : Option Str := if s.stop = true then some "Stopped" else match s.disks[d]? with | some none => none | _ => some "NoDisk"
section
variable {R : Rx} {k : Nat} {C Cd : Addr} {cls : Str → Addr} {vs : List V} {H : Hp} {Q : VK} {X : XK}
def N_Bench_lose : List Str := ["self", "disk"]
def b_Bench_lose : Ss := (.cons (.exp (.meth (.var 0) "_found" [] (.cons (.var 1) .nil)))
  (.cons (.setSub (.fld (.var 0) "_places") (.var 1) .non)
  .nil))
def spLose (C Cd : Addr) (cls : Str → Addr) : Sp := fun vs H Q E => ∃ (x : Addr) (s : Bst) (l : List HP) (d : Nat), vs = [.ref x, .int (d : Nat)] ∧ d < s.disks.length ∧ SL (BenchA C Cd x s :: l) H ∧
  (∀ nm, goneB s d = some nm → Rsd E (cls nm) nm H) ∧ (goneB s d = none → ∀ H', SL (BenchA C Cd x { s with disks := s.disks.set d none } :: l) H' → Q .non H')
theorem w_lose (N : BN R k C Cd cls) (h : spLose C Cd cls vs H Q X) :
    wSs R k b_Bench_lose (fun cls d _ H' => X cls d H') { nx := fun _ H' => Q .non H', rt := Q } (L2.start N_Bench_lose vs) H := by
  obtain ⟨x, s, l, d, rfl, hd, y0, hno, hyes⟩ := h
  obtain ⟨dx, p0, vs, y⟩ := BenchA.out y0
  obtain ⟨gf, Nf⟩ := N.fnd
  have hl : vs.length = s.disks.length := All2.len y.tail.tail
  show wSs R k b_Bench_lose _ _ [some (.ref x), some (.int (d : Nat))] H
  unfold b_Bench_lose
  walk_at "go"
  refine x_own N.xc (SL.get (.head _) y) N.B.cls Nf.me (bench_no (C := C) (dx := dx) (by decide +kernel)) ?_
  walk_at "go"
  refine x_found Nf hd y hno fun a kd hs hk hv => ?_
  walk_at "go"
  refine fl_at y (by walk_at "mem") N.B.cls (N.B.na _ (by decide +kernel)) rfl ?_
  walk_at "go"
  refine p_lst y (xs := vs) (l' := _) (by walk_at "rp") (by omega) fun H2 z2 => ?_
  walk_at "go"
  refine hyes (by unfold goneB; rw [hs, if_neg Bool.false_ne_true, hk]) H2 (BenchA.mk (dx := dx) (p := p0) (vs := vs.set d .non) ?_)
  have z3 := All2.put (xs := vs) (ys := s.disks) (j := d) (a := .non) (b := none) (by omega) (SL.p2 (A := All2 (DiskA Cd) vs s.disks) (B := DiskA Cd .non none) (SL.add (P := V.non = .non) rfl z2) (by walk_at "pk") (by exact .hd))
  exact SL.p3 z3 (by walk_at "pk") (by walk_at "pk") (by walk_at "pk")
def N_Bench_bring : List Str := ["self", "disk", "pieces"]
def b_Bench_bring : Ss := (.cons (.exp (.meth (.var 0) "_check_going" [] .nil))
  (.cons (.ifs (.or2 (.nt (.val (.meth (.var 0) "_is_place" [] (.cons (.var 1) .nil)))) (.cmp (.cmp .IsNot (.sub (.fld (.var 0) "_places") (.var 1)) .non)))
  (.cons (.raise "NoDisk")
  .nil)
  .nil)
  (.cons (.exp (.call "check_pieces" (.cons (.var 2) .nil)))
  (.cons (.setSub (.fld (.var 0) "_places") (.var 1) (.call "Disk" (.cons (.var 2) .nil)))
  .nil))))
def spBring (C Cd : Addr) (cls : Str → Addr) : Sp := fun vs H Q E => ∃ (x : Addr) (s : Bst) (l : List HP) (d n : Nat), vs = [.ref x, .int (d : Nat), .int (n : Nat)] ∧ d < s.disks.length ∧ 1 ≤ n ∧ n ≤ 12 ∧ SL (BenchA C Cd x s :: l) H ∧
  (∀ nm, comeB s d = some nm → Rsd E (cls nm) nm H) ∧ (comeB s d = none → ∀ H', SL (BenchA C Cd x { s with disks := s.disks.set d (some (freshDk n)) } :: l) H' → Q .non H')
structure BM (R : Rx) (k : Nat) (C Cd : Addr) (cls : Str → Addr) : Prop extends BN R k C Cd cls where
  goi : ∃ g, HasM R.toRt k C "_check_going" g (spGoing C (cls "Stopped"))
  pla : ∃ g, HasM R.toRt k C "_is_place" g (spPlace R.K C)
  pie : ∃ f, Has R.toRt k "check_pieces" f (spCheckPieces R.K (cls "BadSizes"))
  dsk : Has R.toRt k "Disk" Cd (spMake Cd (spDiskInit Cd))
  nod : HasErr R.toRt "NoDisk" (cls "NoDisk")
  md : HasInt R.toRt "MOST_DISKS" 6
  me : HasInt R.toRt "MOST_DEEDS" 1000000
theorem w_bring (N : BM R k C Cd cls) (h : spBring C Cd cls vs H Q X) :
    wSs R k b_Bench_bring (fun cls d _ H' => X cls d H') { nx := fun _ H' => Q .non H', rt := Q } (L2.start N_Bench_bring vs) H := by
  obtain ⟨x, s, l, d, n, rfl, hd, hn1, hn2, y0, hno, hyes⟩ := h
  obtain ⟨dx, p0, vs, y⟩ := BenchA.out y0
  obtain ⟨g1, N1⟩ := N.goi
  obtain ⟨g2, N2⟩ := N.pla
  obtain ⟨f3, N3⟩ := N.pie
  have hl : vs.length = s.disks.length := All2.len y.tail.tail
  have e := List.getElem?_eq_getElem hd
  obtain ⟨v, hv1, hv2, hv3⟩ := disk_at y.tail.tail e
  show wSs R k b_Bench_bring _ _ [some (.ref x), some (.int (d : Nat)), some (.int (n : Nat))] H
  unfold b_Bench_bring
  walk_at "go"
  refine x_own N.xc (SL.get (.head _) y) N.B.cls N1.me (bench_no (C := C) (dx := dx) (by decide +kernel)) ?_
  walk_at "go"
  refine x_sp N1.ok ⟨x, dx, p0, _, _, _, rfl, SL.get (.head _) y, fun hs => ?_, fun hs => hno "Stopped" (by unfold comeB; rw [if_pos hs])⟩
  walk_at "go"
  refine x_own N.xc (SL.get (.head _) y) N.B.cls N2.me (bench_no (C := C) (dx := dx) (by decide +kernel)) ?_
  walk_at "go"
  refine x_sp N2.ok ⟨x, dx, p0, _, _, _, vs, _, .int (d : Nat), rfl, SL.get (.head _) y, SL.get (.tail _ (.head _)) y, .int _, ?_⟩
  rw [isNum_yes (by omega)]
  walk_at "go"
  refine fl_at y (by walk_at "mem") N.B.cls (N.B.na _ (by decide +kernel)) rfl ?_
  walk_at "go"
  refine s_at y (by walk_at "mem") hv1 ?_
  walk_at "go"
  cases ho : s.disks[d] with
  | some kd =>
    obtain ⟨a, rfl⟩ := hv3 kd ho
    refine x_dt (by simp) ?_
    exact q_raiseR N.nod N.k2 (hno "NoDisk" (by unfold comeB; rw [hs, if_neg Bool.false_ne_true, e, ho]))
  | none =>
    obtain rfl := hv2 ho
    refine x_df (by simp) ?_
    walk_at "go"
    refine e_call N3.mg N3.kp ?_
    walk_at "go"
    refine x_sp N3.ok ⟨_, .int (n : Nat), rfl, .int _, fun _ => ?_, fun c => ?_⟩
    · walk_at "go"
      refine e_call N.dsk.mg N.dsk.kp ?_
      walk_at "go"
      refine x_sp N.dsk.ok (made_disk hn2 y fun a H2 z => ?_)
      walk_at "go"
      refine fl_at z (by walk_at "mem") N.B.cls (N.B.na _ (by decide +kernel)) rfl ?_
      walk_at "go"
      refine p_lst z (xs := vs) (l' := _) (by walk_at "rp") (by omega) fun H3 z2 => ?_
      walk_at "go"
      refine hyes (by unfold comeB; rw [hs, if_neg Bool.false_ne_true, e, ho]) H3 (BenchA.mk (dx := dx) (p := p0) (vs := vs.set d (.ref a)) ?_)
      have z3 := All2.put (xs := vs) (ys := s.disks) (j := d) (a := .ref a) (b := some (freshDk n)) (by omega) (SL.p2 (A := All2 (DiskA Cd) vs s.disks) (B := DiskA Cd (.ref a) (some (freshDk n))) z2 (by walk_at "pk") (by exact .hd))
      exact SL.p3 z3 (by walk_at "pk") (by walk_at "pk") (by walk_at "pk")
    · unfold isNum at c
      simp only [Bool.and_eq_false_iff, decide_eq_false_iff_not] at c
      omega
def N_Bench_deeds : List Str := ["self"]
def b_Bench_deeds : Ss := (.cons (.ret (.fld (.var 0) "_done"))
  .nil)
def spDeeds (C Cd : Addr) : Sp := fun vs H Q _ => ∃ (x : Addr) (s : Bst) (l : List HP), vs = [.ref x] ∧ SL (BenchA C Cd x s :: l) H ∧ Q (.int (s.done : Nat)) H
theorem w_deeds (N : BM R k C Cd cls) (h : spDeeds C Cd vs H Q X) :
    wSs R k b_Bench_deeds (fun cls d _ H' => X cls d H') { nx := fun _ H' => Q .non H', rt := Q } (L2.start N_Bench_deeds vs) H := by
  obtain ⟨x, s, l, rfl, y0, hq⟩ := h
  obtain ⟨dx, p0, vs, y⟩ := BenchA.out y0
  show wSs R k b_Bench_deeds _ _ [some (.ref x)] H
  unfold b_Bench_deeds
  walk_at "go"
  refine fl_at y (by walk_at "mem") N.B.cls (N.B.na _ (by decide +kernel)) rfl ?_
  walk_at "go"
  exact hq
def N_Bench_again : List Str := ["self"]
def b_Bench_again : Ss := (.cons (.setFld (.var 0) "_stopped" (.bl false))
  (.cons (.setFld (.var 0) "_left" .non)
  .nil))
def spAgain (C Cd : Addr) : Sp := fun vs H Q _ => ∃ (x : Addr) (s : Bst) (l : List HP), vs = [.ref x] ∧ SL (BenchA C Cd x s :: l) H ∧ ∀ H', SL (BenchA C Cd x { s with stop := false, left := none } :: l) H' → Q .non H'
theorem w_again (N : BM R k C Cd cls) (h : spAgain C Cd vs H Q X) :
    wSs R k b_Bench_again (fun cls d _ H' => X cls d H') { nx := fun _ H' => Q .non H', rt := Q } (L2.start N_Bench_again vs) H := by
  obtain ⟨x, s, l, rfl, y0, hq⟩ := h
  obtain ⟨dx, p0, vs, y⟩ := BenchA.out y0
  show wSs R k b_Bench_again _ _ [some (.ref x)] H
  unfold b_Bench_again
  walk_at "go"
  refine p_fld (fs := [("_places", .ref p0), ("_done", .int s.done), ("_left", leftV s.left), ("_stopped", .bl s.stop)]) y N.B.cls (N.B.na _ (by decide +kernel)) (show (4 : Nat) < 1000 by decide) (.hd) fun H2 z => ?_
  walk_at "go"
  refine p_fld (fs := [("_places", .ref p0), ("_done", .int s.done), ("_left", leftV s.left), ("_stopped", .bl false)]) z N.B.cls (N.B.na _ (by decide +kernel)) (show (4 : Nat) < 1000 by decide) (.hd) fun H3 z3 => ?_
  walk_at "go"
  exact hq H3 (BenchA.mk (dx := dx) (p := p0) (vs := vs) z3)
def N_Bench_arm : List Str := ["self", "count"]
def b_Bench_arm : Ss := (.cons (.ifs (.nt (.val (.call "is_number" (.cons (.var 1) (.cons (.int 0) (.cons (.glob "MOST_DEEDS") .nil))))))
  (.cons (.raise "BadNumber")
  .nil)
  .nil)
  (.cons (.setFld (.var 0) "_left" (.var 1))
  .nil))
def spArm (C Cd : Addr) : Sp := fun vs H Q _ => ∃ (x : Addr) (s : Bst) (l : List HP) (n : Nat), vs = [.ref x, .int (n : Nat)] ∧ n ≤ 1000000 ∧ SL (BenchA C Cd x s :: l) H ∧ ∀ H', SL (BenchA C Cd x { s with left := some n } :: l) H' → Q .non H'
theorem w_arm (N : BM R k C Cd cls) (h : spArm C Cd vs H Q X) :
    wSs R k b_Bench_arm (fun cls d _ H' => X cls d H') { nx := fun _ H' => Q .non H', rt := Q } (L2.start N_Bench_arm vs) H := by
  obtain ⟨x, s, l, n, rfl, hn, y0, hq⟩ := h
  obtain ⟨dx, p0, vs, y⟩ := BenchA.out y0
  obtain ⟨fn, Nn⟩ := N.num
  show wSs R k b_Bench_arm _ _ [some (.ref x), some (.int (n : Nat))] H
  unfold b_Bench_arm
  walk_at "go"
  refine e_call Nn.mg Nn.kp ?_
  walk_at "go"
  refine e_gint N.me ?_
  walk_at "go"
  refine x_sp Nn.ok ⟨_, .int (n : Nat), 0, _, rfl, .int _, ?_⟩
  rw [isNum_yes (by omega)]
  walk_at "go"
  refine p_fld (fs := [("_places", .ref p0), ("_done", .int s.done), ("_left", leftV s.left), ("_stopped", .bl s.stop)]) y N.B.cls (N.B.na _ (by decide +kernel)) (show (4 : Nat) < 1000 by decide) (.hd) fun H2 z => ?_
  walk_at "go"
  exact hq H2 (BenchA.mk (dx := dx) (p := p0) (vs := vs) z)
def N_Bench_sizes : List Str := ["self", "found"]
def b_Bench_sizes : Ss := (.cons (.ret (.comp (.ife (.cmp (.cmp .Is (.var 1) .non)) .non (.callB .len (.cons (.fld (.var 1) "blocks") .nil))) (.nm 1) (.seq (.fld (.var 0) "_places")) .yes [1]))
  .nil)
def sizeV : Option Dk → V
  | none => .non
  | some k => .int (k.blocks.length : Nat)
def spSizes (C Cd : Addr) : Sp := fun vs H Q _ => ∃ (x : Addr) (s : Bst) (l : List HP), vs = [.ref x] ∧ s.disks.length ≤ 6 ∧ SL (BenchA C Cd x s :: l) H ∧ ∀ q H', SL (pt q (.lst (s.disks.map sizeV)) :: BenchA C Cd x s :: l) H' → Q (.ref q) H'
theorem w_sizes (N : BM R k C Cd cls) (h : spSizes C Cd vs H Q X) :
    wSs R k b_Bench_sizes (fun cls d _ H' => X cls d H') { nx := fun _ H' => Q .non H', rt := Q } (L2.start N_Bench_sizes vs) H := by
  obtain ⟨x, s, l, rfl, hs6, y0, hq⟩ := h
  obtain ⟨dx, p0, vs, y⟩ := BenchA.out y0
  have sz : (500 : Nat) < sizeLine := by rw [sizeLine_eq]; decide
  have hl : vs.length = s.disks.length := All2.len y.tail.tail
  show wSs R k b_Bench_sizes _ _ [some (.ref x), none] H
  unfold b_Bench_sizes
  walk_at "go"
  refine e_comp ?_
  walk_at "go"
  refine fl_at y (by walk_at "mem") N.B.cls (N.B.na _ (by decide +kernel)) rfl ?_
  refine k_lst (fun t acc => (fun _ => acc = (s.disks.map sizeV).take t) :: pt x (benchO C dx p0 s.done (leftV s.left) s.stop) :: pt p0 (.lst vs) :: All2 (DiskA Cd) vs s.disks :: l) (y.add (by simp)) (fun t acc H z => sq_l (SL.get (by walk_at "mem") z)) (fun t acc D H1 v hv ha z => ?_) fun acc D H3 ha z => ?_
  · obtain ⟨hacc, z⟩ := z.swap.fact
    have ht := (List.getElem?_eq_some_iff.mp hv).1
    have ho : s.disks[t]? = some (s.disks[t]'(by omega)) := List.getElem?_eq_getElem (by omega)
    generalize s.disks[t]'(by omega) = o at ho
    have fin : ∀ H4 w, w = sizeV o → SL (pt D (.lst acc) :: pt x (benchO C dx p0 s.done (leftV s.left) s.stop) :: pt p0 (.lst vs) :: All2 (DiskA Cd) vs s.disks :: l) H4 → CompN D t (fun t acc => (fun _ => acc = (s.disks.map sizeV).take t) :: pt x (benchO C dx p0 s.done (leftV s.left) s.stop) :: pt p0 (.lst vs) :: All2 (DiskA Cd) vs s.disks :: l) w H4 := fun H4 w e z4 =>
      CompN.of ha (by omega) ((z4.add (P := acc ++ [w] = _) (take_next hacc (by rw [List.getElem?_map, ho, e]; rfl))).swap)
    show wE R k _ W0 [some (.ref x), some v] H1 _
    have z1 := All2.open (xs := vs) hv ho (z.p1 (A := All2 (DiskA Cd) vs s.disks) (by walk_at "pk"))
    walk_at "go"
    cases o with
    | none =>
      obtain ⟨rfl, _⟩ := DiskA.no z1
      walk_at "go"
      exact fin _ _ rfl z
    | some kd =>
      obtain ⟨a, dx', bv, lv, rfl, z2⟩ := DiskA.out z1
      obtain ⟨pb, rows, rfl, z3⟩ := BlocksA.out (z2.p1 (A := BlocksA bv kd.blocks) (by walk_at "pk"))
      have hrl : rows.length = kd.blocks.length := All2.len (z3.p1 (by walk_at "pk"))
      refine x_df (by simp) ?_
      walk_at "go"
      refine fl_at z3 (by walk_at "mem") N.D.cls (N.D.na _ (by decide +kernel)) rfl ?_
      walk_at "go"
      refine i_len (len_l (sq_l (SL.get (by walk_at "mem") z3))) ?_
      exact fin _ _ (by rw [hrl]; rfl) z
  · obtain ⟨hacc, z⟩ := z.swap.fact
    rw [List.take_of_length_le (by simp; omega)] at hacc
    subst hacc
    exact hq D H3 (SL.p1 (A := pt D _) (BenchA.mk (dx := dx) (p := p0) (vs := vs) (SL.p3 (A := pt x (benchO C dx p0 s.done (leftV s.left) s.stop)) (B := pt p0 (.lst vs)) (C := All2 (DiskA Cd) vs s.disks) z (by walk_at "pk") (by walk_at "pk") (by walk_at "pk"))) (by walk_at "pk"))
end

end Zw

set_option Elab.async false
set_option linter.all false
set_option maxRecDepth 100000
set_option maxHeartbeats 4000000
namespace Zw
open PySem PySem.Spec PyProof.Rows L2
local macro_rules | `(tactic| walk_at "mem") => `(tactic| (first | exact List.Mem.head _ | (apply List.Mem.tail; walk_at "mem")))
local macro_rules | `(tactic| walk_at "rp") => `(tactic| (first | exact Rp.hd | (apply Rp.tl; walk_at "rp")))
local macro_rules | `(tactic| walk_at "pk") => `(tactic| (first | exact Pk.hd | (apply Pk.tl; walk_at "pk")))
local macro_rules | `(tactic| walk_at "go1") => `(tactic| with_reducible (first
  | refine q_set ?_ | refine q_exp ?_ | refine q_doc ?_ | refine q_pass ?_ | refine q_ret ?_ | refine q_retN ?_ | refine q_brk ?_ | refine q_cont ?_ | refine q_if ?_ | refine q_par ?_ | refine q_setFld ?_ | refine q_setSub ?_ | refine q_for ?_
  | refine e_int ?_ | refine e_str ?_ | refine e_bl ?_ | refine e_non ?_ | refine e_bin ?_ | refine e_neg ?_ | refine e_nt ?_ | refine e_cmp ?_ | refine e_chain ?_ | refine e_and ?_ | refine e_or ?_ | refine e_ife ?_ | refine e_fld ?_ | refine e_sub ?_ | refine e_tup ?_ | refine e_lst ?_ | refine e_bi ?_ | refine e_meth ?_
  | refine es_nil ?_ | refine es_cons ?_ | refine t_yes ?_ | refine t_nt ?_ | refine t_and ?_ | refine t_or ?_ | refine t_cmp ?_ | refine t_val ?_ | refine i_seq ?_ | refine i_rng ?_
  | refine x_bl ?_ | refine x_in ?_ | refine tr_bl ?_ | refine tr_int ?_ | refine tr_non ?_
  | refine b_add ?_ | refine b_sub ?_ | refine c_lt ?_ | refine c_le ?_ | refine c_gt ?_ | refine c_ge ?_ | refine c_is ?_ | refine c_isnt ?_ | refine i_intB ?_ | refine c_eqI ?_ | refine c_neI ?_ | refine c_eqB ?_ | refine c_neB ?_ | refine c_eqS ?_ | refine q_nil ?_ | refine x_itt ?_ | refine x_iff ?_))
local macro_rules | `(tactic| walk_at "go2") => `(tactic| (first
  | ((with_reducible refine' e_var ?hg ?hh); (case hg => rfl))
  | ((with_reducible refine' s_0 ?hx ?hm ?hg ?hh); (case hx => assumption); (case hm => walk_at "mem"); (case hg => rfl))
  | ((with_reducible refine' s_1 ?hx ?hm ?hg ?hh); (case hx => assumption); (case hm => walk_at "mem"); (case hg => rfl))
  | ((with_reducible refine' s_2 ?hx ?hm ?hg ?hh); (case hx => assumption); (case hm => walk_at "mem"); (case hg => rfl))
  | ((with_reducible refine' p_0 ?hx ?hr ?hb ?hh); (case hx => assumption); (case hr => walk_at "rp"); (case hb => first | (simp; done) | decide); intros)
  | ((with_reducible refine' p_1 ?hx ?hr ?hb ?hh); (case hx => assumption); (case hr => walk_at "rp"); (case hb => first | (simp; done) | decide); intros)
  | ((with_reducible refine' n_lst ?hx ?hb ?hh); (case hx => assumption); (case hb => first | decide | (simp only [List.length_cons, List.length_nil]; decide)); intros)
  | ((with_reducible refine' n_tup ?hx ?hb ?hh); (case hx => assumption); (case hb => first | decide | (simp only [List.length_cons, List.length_nil]; decide)); intros)))
local macro_rules | `(tactic| walk_at "go") => `(tactic| repeat (first | walk_at "go1" | walk_at "go2"))
local macro_rules | `(tactic| walk_at "go2") => `(tactic| (first
  | ((with_reducible refine' e_ty ?hg ?hh); (case hg => rfl))
  | ((with_reducible refine' isi_dp ok_bl ?hx ?hh); (case hx => assumption))
  | ((with_reducible refine' isi_dp ok_int ?hx ?hh); (case hx => assumption))
  | ((with_reducible refine' isi_dp ok_str ?hx ?hh); (case hx => assumption))
  | ((with_reducible refine' isi_dp ok_tup ?hx ?hh); (case hx => assumption))
  | ((with_reducible refine' isi_dp ok_lst ?hx ?hh); (case hx => assumption))
  | ((with_reducible refine' x_dt ?hc ?hh); (case hc => rfl))
  | ((with_reducible refine' x_df ?hc ?hh); (case hc => rfl))))
def N_Bench_init : List Str := ["self", "sizes", "pieces"]
def b_Bench_init : Ss := (.cons (.ifs (.nt (.cmp (.chain .LtE .LtE (.int 1) (.callB .len (.cons (.var 1) .nil)) (.glob "MOST_DISKS"))))
  (.cons (.raise "BadSizes")
  .nil)
  .nil)
  (.cons (.fors (.nm 2) (.seq (.var 1))
  (.cons (.exp (.call "check_pieces" (.cons (.var 2) .nil)))
  .nil))
  (.cons (.setFld (.var 0) "_places" (.comp (.call "Disk" (.cons (.var 2) .nil)) (.nm 2) (.seq (.var 1)) .yes [2]))
  (.cons (.setFld (.var 0) "_done" (.int 0))
  (.cons (.setFld (.var 0) "_left" .non)
  (.cons (.setFld (.var 0) "_stopped" (.bl false))
  .nil))))))
def freshB (ns : List Nat) : Bst := ⟨ns.map fun n => some (freshDk n), none, false, 0⟩
def spBenchInit (C Cd : Addr) : Sp := fun vs H Q _ => ∃ (a dx q : Addr) (ns : List Nat) (l : List HP), vs = [.ref a, .ref q] ∧ 1 ≤ ns.length ∧ ns.length ≤ 6 ∧ (∀ n ∈ ns, 1 ≤ n ∧ n ≤ 12) ∧ SL (pt a (.ins C dx []) :: pt q (.lst (numsV ns)) :: l) H ∧
  ∀ H', SL (BenchA C Cd a (freshB ns) :: pt q (.lst (numsV ns)) :: l) H' → Q .non H'
theorem isNum_btw {i : Nat} {lo hi : Int} (h1 : lo ≤ (i : Int)) (h2 : (i : Int) ≤ hi) : isNum (.int (i : Nat)) lo hi = true := by
  show (decide (lo ≤ (i : Int)) && decide ((i : Int) ≤ hi)) = true
  rw [decide_eq_true h1, decide_eq_true h2]
  rfl
theorem w_Bench_init {R : Rx} {k : Nat} {C Cd : Addr} {cls : Str → Addr} {vs : List V} {H : Hp} {Q : VK} {X : XK} (N : BM R k C Cd cls) (h : spBenchInit C Cd vs H Q X) :
    wSs R k b_Bench_init (fun cls d _ H' => X cls d H') { nx := fun _ H' => Q .non H', rt := Q } (L2.start N_Bench_init vs) H := by
  obtain ⟨a, dx, q, ns, l, rfl, h1, h6, hns, y, hq⟩ := h
  obtain ⟨f3, N3⟩ := N.pie
  have sz : (500 : Nat) < sizeLine := by rw [sizeLine_eq]; decide
  have hnl : (numsV ns).length = ns.length := List.length_map _
  show wSs R k b_Bench_init _ _ [some (.ref a), some (.ref q), none] H
  unfold b_Bench_init
  walk_at "go"
  refine i_len (len_l (sq_l (SL.get (by walk_at "mem") y))) ?_
  walk_at "go"
  refine x_dt (decide_eq_true (by omega)) ?_
  refine e_gint N.md ?_
  walk_at "go"
  rw [show (decide (((numsV ns).length : Int) ≤ 6)) = true from decide_eq_true (by omega)]
  walk_at "go"
  refine l_lst (fun j σ H => SL (pt a (.ins C dx []) :: pt q (.lst (numsV ns)) :: l) H ∧ ∃ c, σ = [some (.ref a), some (.ref q), c]) (sq_l (SL.get (by walk_at "mem") y)) ⟨y, _, rfl⟩ (fun j σ H I => sq_l (SL.get (.tail _ (.head _)) I.1)) (fun j v σ H hv I => ?_) fun σ H I => ?_
  · obtain ⟨z, c, rfl⟩ := I
    unfold numsV at hv
    rw [List.getElem?_map] at hv
    obtain ⟨n, hn, rfl⟩ := Option.map_eq_some_iff.mp hv
    have hb := hns n (List.mem_of_getElem? hn)
    walk_at "go"
    refine e_call N3.mg N3.kp ?_
    walk_at "go"
    refine x_sp N3.ok ⟨_, .int (n : Nat), rfl, .int _, fun _ => ?_, fun c => ?_⟩
    · walk_at "go"
      exact ⟨z, _, rfl⟩
    · rw [isNum_btw (by omega) (by omega)] at c
      cases c
  · obtain ⟨z, c, rfl⟩ := I
    clear y
    walk_at "go"
    refine e_comp ?_
    walk_at "go"
    refine k_lst (fun t acc => All2 (DiskA Cd) acc ((ns.take t).map fun n => some (freshDk n)) :: pt a (.ins C dx []) :: pt q (.lst (numsV ns)) :: l) (All2.nil z) (fun t acc H z => sq_l (SL.get (by walk_at "mem") z)) (fun t acc D H1 v hv ha z => ?_) fun acc D H3 ha z => ?_
    · unfold numsV at hv
      rw [List.getElem?_map] at hv
      obtain ⟨n, hn, rfl⟩ := Option.map_eq_some_iff.mp hv
      have hb := hns n (List.mem_of_getElem? hn)
      have ht := (List.getElem?_eq_some_iff.mp hn).1
      show wE R k _ W0 [some (.ref a), some (.ref q), some (.int (n : Nat))] H1 _
      refine e_call N.dsk.mg N.dsk.kp ?_
      walk_at "go"
      refine x_sp N.dsk.ok (made_disk hb.2 z fun b H2 z2 => ?_)
      refine CompN.of ha (by omega) ?_
      rw [← take_next (l := ns) (acc := ns.take t) rfl hn, List.map_append]
      exact SL.p1 (A := pt D (.lst acc)) (All2.snoc (SL.p2 (A := DiskA Cd (.ref b) (some (freshDk n))) (B := All2 (DiskA Cd) acc ((ns.take t).map fun n => some (freshDk n))) z2 (by walk_at "pk") (by walk_at "pk"))) (by walk_at "pk")
    · rw [List.take_of_length_le (by rw [hnl]; exact Nat.le_refl _)] at z
      walk_at "go"
      refine p_fld (fs := []) (p := a) (C := C) (dx := dx) z N.B.cls (N.B.na _ (by decide +kernel)) (show (0 : Nat) < 1000 by decide) (.tl (.tl .hd)) fun H4 z => ?_
      walk_at "go"
      refine p_fld (fs := [("_places", .ref D)]) (p := a) (C := C) (dx := dx) z N.B.cls (N.B.na _ (by decide +kernel)) (show (1 : Nat) < 1000 by decide) (.tl (.tl .hd)) fun H4 z => ?_
      walk_at "go"
      refine p_fld (fs := [("_places", .ref D), ("_done", .int 0)]) (p := a) (C := C) (dx := dx) z N.B.cls (N.B.na _ (by decide +kernel)) (show (2 : Nat) < 1000 by decide) (.tl (.tl .hd)) fun H4 z => ?_
      walk_at "go"
      refine p_fld (fs := [("_places", .ref D), ("_done", .int 0), ("_left", .non)]) (p := a) (C := C) (dx := dx) z N.B.cls (N.B.na _ (by decide +kernel)) (show (3 : Nat) < 1000 by decide) (.tl (.tl .hd)) fun H4 z => ?_
      walk_at "go"
      refine hq H4 (BenchA.mk (dx := dx) (p := D) (vs := acc) ?_)
      exact SL.p3 (A := pt a (benchO C dx D 0 .non false)) (B := pt D (.lst acc)) (C := All2 (DiskA Cd) acc (ns.map fun n => some (freshDk n))) z (by walk_at "pk") (by walk_at "pk") (by walk_at "pk")

end Zw

set_option Elab.async false
set_option linter.all false
set_option maxRecDepth 100000
set_option maxHeartbeats 4000000
namespace Zw
open PySem PySem.Spec PyProof.Rows L2
local macro_rules | `(tactic| walk_at "mem") => `(tactic| (first | exact List.Mem.head _ | (apply List.Mem.tail; walk_at "mem")))
local macro_rules | `(tactic| walk_at "rp") => `(tactic| (first | exact Rp.hd | (apply Rp.tl; walk_at "rp")))
local macro_rules | `(tactic| walk_at "pk") => `(tactic| (first | exact Pk.hd | (apply Pk.tl; walk_at "pk")))
local macro_rules | `(tactic| walk_at "go1") => `(tactic| with_reducible (first
  | refine q_set ?_ | refine q_exp ?_ | refine q_doc ?_ | refine q_pass ?_ | refine q_ret ?_ | refine q_retN ?_ | refine q_brk ?_ | refine q_cont ?_ | refine q_if ?_ | refine q_par ?_ | refine q_setFld ?_ | refine q_setSub ?_ | refine q_for ?_
  | refine e_int ?_ | refine e_str ?_ | refine e_bl ?_ | refine e_non ?_ | refine e_bin ?_ | refine e_neg ?_ | refine e_nt ?_ | refine e_cmp ?_ | refine e_chain ?_ | refine e_and ?_ | refine e_or ?_ | refine e_ife ?_ | refine e_fld ?_ | refine e_sub ?_ | refine e_tup ?_ | refine e_lst ?_ | refine e_bi ?_ | refine e_meth ?_
  | refine es_nil ?_ | refine es_cons ?_ | refine t_yes ?_ | refine t_nt ?_ | refine t_and ?_ | refine t_or ?_ | refine t_cmp ?_ | refine t_val ?_ | refine i_seq ?_ | refine i_rng ?_
  | refine x_bl ?_ | refine x_in ?_ | refine tr_bl ?_ | refine tr_int ?_ | refine tr_non ?_
  | refine b_add ?_ | refine b_sub ?_ | refine c_lt ?_ | refine c_le ?_ | refine c_gt ?_ | refine c_ge ?_ | refine c_is ?_ | refine c_isnt ?_ | refine i_intB ?_ | refine c_eqI ?_ | refine c_neI ?_ | refine c_eqB ?_ | refine c_neB ?_ | refine c_eqS ?_ | refine q_nil ?_ | refine x_itt ?_ | refine x_iff ?_))
local macro_rules | `(tactic| walk_at "go2") => `(tactic| (first
  | ((with_reducible refine' e_var ?hg ?hh); (case hg => rfl))
  | ((with_reducible refine' s_0 ?hx ?hm ?hg ?hh); (case hx => assumption); (case hm => walk_at "mem"); (case hg => rfl))
  | ((with_reducible refine' s_1 ?hx ?hm ?hg ?hh); (case hx => assumption); (case hm => walk_at "mem"); (case hg => rfl))
  | ((with_reducible refine' s_2 ?hx ?hm ?hg ?hh); (case hx => assumption); (case hm => walk_at "mem"); (case hg => rfl))
  | ((with_reducible refine' p_0 ?hx ?hr ?hb ?hh); (case hx => assumption); (case hr => walk_at "rp"); (case hb => first | (simp; done) | decide); intros)
  | ((with_reducible refine' p_1 ?hx ?hr ?hb ?hh); (case hx => assumption); (case hr => walk_at "rp"); (case hb => first | (simp; done) | decide); intros)
  | ((with_reducible refine' n_lst ?hx ?hb ?hh); (case hx => assumption); (case hb => first | decide | (simp only [List.length_cons, List.length_nil]; decide)); intros)
  | ((with_reducible refine' n_tup ?hx ?hb ?hh); (case hx => assumption); (case hb => first | decide | (simp only [List.length_cons, List.length_nil]; decide)); intros)))
local macro_rules | `(tactic| walk_at "go") => `(tactic| repeat (first | walk_at "go1" | walk_at "go2"))
local macro_rules | `(tactic| walk_at "go2") => `(tactic| (first
  | ((with_reducible refine' e_ty ?hg ?hh); (case hg => rfl))
  | ((with_reducible refine' isi_dp ok_bl ?hx ?hh); (case hx => assumption))
  | ((with_reducible refine' isi_dp ok_int ?hx ?hh); (case hx => assumption))
  | ((with_reducible refine' isi_dp ok_str ?hx ?hh); (case hx => assumption))
  | ((with_reducible refine' isi_dp ok_tup ?hx ?hh); (case hx => assumption))
  | ((with_reducible refine' isi_dp ok_lst ?hx ?hh); (case hx => assumption))
  | ((with_reducible refine' x_dt ?hc ?hh); (case hc => rfl))
  | ((with_reducible refine' x_df ?hc ?hh); (case hc => rfl))))
theorem TupA.up {v : V} {d : PyData} {h h' : Hp} (s : Sub h h') (x : TupA v d h) : TupA v d h' := TD.up s x
def N_copied : List Str := ["thing", "begun", "source", "parts", "part", "whole"]
def b_copied : Ss := (.cons (.ifs (.nt (.val (.callB .isinstance (.cons (.var 0) (.cons (.tup (.cons (.bltn "tuple") (.cons (.bltn "list") .nil))) .nil)))))
  (.cons (.ret (.var 0))
  .nil)
  .nil)
  (.cons (.set 1 (.lst (.cons (.tup (.cons (.var 0) (.cons (.lst .nil) .nil))) .nil)))
  (.cons (.whl (.val (.bl true))
  (.cons (.setTup (.nm 2 (.nm 3 .nil)) (.sub (.var 1) (.neg (.int 1))))
  (.cons (.ifs (.cmp (.cmp .Lt (.callB .len (.cons (.var 3) .nil)) (.callB .len (.cons (.var 2) .nil))))
  (.cons (.set 4 (.sub (.var 2) (.callB .len (.cons (.var 3) .nil))))
  (.cons (.ifs (.val (.callB .isinstance (.cons (.var 4) (.cons (.tup (.cons (.bltn "tuple") (.cons (.bltn "list") .nil))) .nil))))
  (.cons (.exp (.meth (.var 1) "append" [.append] (.cons (.tup (.cons (.var 4) (.cons (.lst .nil) .nil))) .nil)))
  .nil)
  (.cons (.exp (.meth (.var 3) "append" [.append] (.cons (.var 4) .nil)))
  .nil))
  (.cons .cont
  .nil)))
  .nil)
  (.cons (.exp (.meth (.var 1) "pop" [.pop, .popAt, .dpop1, .dpop2] .nil))
  (.cons (.set 5 (.ife (.val (.callB .isinstance (.cons (.var 2) (.cons (.bltn "tuple") .nil)))) (.callB .tuple (.cons (.var 3) .nil)) (.var 3)))
  (.cons (.ifs (.nt (.val (.var 1)))
  (.cons (.ret (.var 5))
  .nil)
  .nil)
  (.cons (.exp (.meth (.sub (.sub (.var 1) (.neg (.int 1))) (.int 1)) "append" [.append] (.cons (.var 5) .nil)))
  .nil)))))))
  .nil)))
def AccA (acc : List V) (ds : List PyData) : HP := fun h => acc.length ≤ ds.length ∧ ∀ (i : Nat) v d, acc[i]? = some v → ds[i]? = some d → TD h v d
theorem AccA.up {acc : List V} {ds : List PyData} {h h' : Hp} (s : Sub h h') (x : AccA acc ds h) : AccA acc ds h' := ⟨x.1, fun i v d a b => (x.2 i v d a b).up s⟩
theorem AccA.fix {acc : List V} {ds : List PyData} {h : Hp} (x : AccA acc ds h) : AccA acc ds (fx h) := ⟨x.1, fun i v d a b => (x.2 i v d a b).fix⟩
theorem AccA.snoc {acc : List V} {ds : List PyData} {h : Hp} {w : V} {d : PyData} (x : AccA acc ds h) (t : TD h w d) (e : ds[acc.length]? = some d) : AccA (acc ++ [w]) ds h := by
  have hl := (List.getElem?_eq_some_iff.mp e).1
  refine ⟨by simp; omega, fun i v d' a b => ?_⟩
  by_cases hi : i < acc.length
  · rw [List.getElem?_append_left hi] at a
    exact x.2 i v d' a b
  · by_cases h2 : i = acc.length
    · subst h2
      simp at a
      subst a
      rw [e] at b
      cases b
      exact t
    · rw [List.getElem?_eq_none (by simp; omega)] at a
      cases a
def StkA (d0 : PyData) : List V → PyData → Nat → HP
  | [], d, m => fun _ => d = d0 ∧ m = 0
  | f :: fs, d, m => fun h => ∃ (a q : Addr) (src : V) (ds : List PyData) (acc : List V) (m' : Nat), f = .ref a ∧ ds[acc.length]? = some d ∧ m = 1 + costs (ds.drop (acc.length + 1)) + m' ∧ szB (.tuple ds) = true ∧
      SL [pt a (.tup [src, .ref q]), pt q (.lst acc), TupA src (.tuple ds), AccA acc ds, StkA d0 fs (.tuple ds) m'] h
theorem TD.inv {h : Hp} {v : V} {ds : List PyData} (x : TD h v (.tuple ds)) : ∃ t vs, v = .ref t ∧ h t = some (.tup vs) ∧ vs.length = ds.length ∧ ∀ (i : Nat) v d, vs[i]? = some v → ds[i]? = some d → TD h v d := by
  cases x with
  | tup e hl k => exact ⟨_, _, rfl, e, hl, k⟩
theorem TD.nolist {h : Hp} {v : V} {d : PyData} (x : TD h v d) : gLst (kd d) = false := by cases x <;> rfl
theorem kit2 {K : PySem.W.Frag} (d : Kd) : PySem.W.kitAny K (.type d.nm) [.type "tuple", .type "list"] = some (gTup d || gLst d) := by
  rw [PySem.W.kitAny, kit_ty (ok_tup d)]
  cases gTup d
  · simp only
    rw [PySem.W.kitAny, kit_ty (ok_lst d)]
    cases gLst d <;> rfl
  · rfl
theorem isi2 {K : PySem.W.Frag} {xc : XC} {H : Hp} {v : V} {d : PyData} {tp : Addr} {Q : VK} {l : List HP} (x : SL (pt tp (.tup [.ty "tuple", .ty "list"]) :: l) H) (hd : TD H v d) (h : Q (.bl (gTup (kd d))) H) : rBi K xc .isinstance [v, .ref tp] H Q := by
  refine i_isT (SL.get (.head _) x) (.cons (.ty "tuple") (.cons (.ty "list") .nil)) (dp_ty hd.dp) (kit2 (kd d)) ?_
  rw [hd.nolist, Bool.or_false]
  exact h
theorem gTup_inv {d : PyData} (h : gTup (kd d) = true) : ∃ ds, d = .tuple ds := by cases d <;> first | (cases h; done) | exact ⟨_, rfl⟩
theorem gTup_no {d : PyData} (h : gTup (kd d) = false) : costD d = 1 := by cases d <;> first | (cases h; done) | rfl
theorem costs_at {ds : List PyData} {i : Nat} {d : PyData} (h : ds[i]? = some d) : costs (ds.drop i) = costD d + costs (ds.drop (i + 1)) := by
  obtain ⟨hi, rfl⟩ := List.getElem?_eq_some_iff.mp h
  rw [List.drop_eq_getElem_cons hi]
  rfl
def TopI (p : Addr) (v0 : V) (d0 : PyData) (l : List HP) (m : Nat) (H : Hp) : Prop := ∃ (fs : List V) (a q : Addr) (src : V) (ds : List PyData) (acc : List V) (m' : Nat), m = 1 + costs (ds.drop acc.length) + m' ∧ fs.length + m ≤ 500 ∧ szB (.tuple ds) = true ∧
  SL (pt p (.lst (fs.reverse ++ [.ref a])) :: pt a (.tup [src, .ref q]) :: pt q (.lst acc) :: TupA src (.tuple ds) :: AccA acc ds :: StkA d0 fs (.tuple ds) m' :: TupA v0 d0 :: l) H
theorem szB_le {ds : List PyData} (h : szB (.tuple ds) = true) : ds.length ≤ sizeLine ∧ szAll ds = true := by
  unfold szB at h
  simpa using h
theorem q_while {R : Rx} {k : Nat} {W : WX} {D : Ends} {σ : L2.St} {H : Hp} {a r : Ss} {t : T} (h : ∃ V : Nat → L2.St → Hp → Prop, (∃ m, V m σ H) ∧ ∀ m σ H, V m σ H →
  wT R k t W σ H fun b H1 => if b = true then ∃ N : L2.St → Hp → Prop, (∀ σ' H', N σ' H' → ∃ m', m' < m ∧ V m' σ' H') ∧ wSs R k a W { D with nx := N, ct := N, bk := fun σ' H' => wSs R k r W D σ' H' } σ H1 else wSs R k r W D σ H1) : wSs R k (.cons (.whl t a) r) W D σ H := h
theorem q_tup {R : Rx} {k : Nat} {W : WX} {D : Ends} {σ : L2.St} {H : Hp} {ts : Tts} {e : E} {r : Ss} (h : wE R k e W σ H fun v H1 => ∃ a xs, v = .ref a ∧ (SqT R.K H1 a xs ∨ SqL R.K H1 a xs) ∧ xs.length = ts.len ∧ wTts R k ts W xs σ H1 fun σ' H' => wSs R k r W D σ' H') : wSs R k (.cons (.setTup ts e) r) W D σ H := h
theorem w_copied {R : Rx} {k : Nat} {vs : List V} {H : Hp} {Q : VK} {X : XK} (h : spCopied vs H Q X) :
    wSs R k b_copied (fun cls d _ H' => X cls d H') { nx := fun _ H' => Q .non H', rt := Q } (L2.start N_copied vs) H := by
  obtain ⟨v, d, l, rfl, x, ⟨hc, hz⟩, hq⟩ := h
  have sz : (600 : Nat) < sizeLine := by rw [sizeLine_eq]; decide
  have t0 : TD H v d := SL.up (A := TupA v d) (fun _ _ => TupA.up) (.head _) x
  show wSs R k b_copied _ _ [some v, none, none, none, none, none] H
  unfold b_copied
  walk_at "go"
  rename_i tp H1 x1
  have t1 : TD H1 v d := SL.up (A := TupA v d) (fun _ _ => TupA.up) (.tail _ (.head _)) x1
  refine isi2 x1 t1 ?_
  walk_at "go"
  have x2 := x1.tail
  clear x1 x
  cases hg : gTup (kd d) with
  | false =>
    walk_at "go"
    exact hq v H1 (x2.dupF (A := TupA v d) t1.fix)
  | true =>
    obtain ⟨ds, rfl⟩ := gTup_inv hg
    walk_at "go"
    rename_i q Ha xa a Hb xb p Hc xc
    refine q_while ⟨fun m σ H => TopI p v (.tuple ds) l m H ∧ ∃ c2 c3 c4 c5, σ = [some v, some (.ref p), c2, c3, c4, c5], ⟨_, ⟨[], a, q, v, ds, [], 0, rfl, ?_, hz, ?_⟩, _, _, _, _, rfl⟩, ?_⟩
    · simp only [List.length_nil, List.drop_zero]
      simp only [costD] at hc
      omega
    · have t3 : TD Hc v (.tuple ds) := SL.up (A := TupA v (.tuple ds)) (fun _ _ => TupA.up) (by walk_at "mem") xc
      have y1 := xc.dupF (A := TupA v (.tuple ds)) t3.fix
      have y2 := y1.dupF (A := AccA [] ds) ⟨Nat.zero_le _, fun i v d a _ => by simp at a⟩
      have y3 := y2.dupF (A := StkA (.tuple ds) [] (.tuple ds) 0) ⟨rfl, rfl⟩
      refine SL.p6 (A := pt p (.lst [.ref a])) (B := pt a (.tup [v, .ref q])) (C := pt q (.lst [])) (D := TupA v (.tuple ds)) (E := AccA [] ds) (F := StkA (.tuple ds) [] (.tuple ds) 0) y3 (by walk_at "pk") (by walk_at "pk") (by walk_at "pk") (by walk_at "pk") (by walk_at "pk") (by walk_at "pk")
    clear xa xb xc x2 t1 t0 hg
    rintro m σ H ⟨⟨fs, a, q, src, es, acc, m', hm, hb, hz2, y⟩, c2, c3, c4, c5, rfl⟩
    obtain ⟨zl, za⟩ := szB_le hz2
    obtain ⟨t, vs, rfl, et, hvl, hvs⟩ := (SL.up (A := TupA src (.tuple es)) (fun _ _ => TupA.up) (by walk_at "mem") y : TD H src (.tuple es)).inv
    have hacc : AccA acc es H := SL.up (A := AccA acc es) (fun _ _ => AccA.up) (by walk_at "mem") y
    have hlast : (fs.reverse ++ [V.ref a])[(fs.reverse ++ [V.ref a]).length - 1]? = some (.ref a) := by simp
    walk_at "go"
    refine ⟨fun σ H => ∃ m2, m2 < m ∧ (TopI p v (.tuple ds) l m2 H ∧ ∃ c2 c3 c4 c5, σ = [some v, some (.ref p), c2, c3, c4, c5]), fun σ' H' h => h, ?_⟩
    refine q_tup ?_
    walk_at "go"
    refine s_m1 y (.head _) hlast ⟨a, _, rfl, .inl (st_t (SL.get (.tail _ (.head _)) y)), rfl, ?_⟩
    show wSs R k _ _ _ [some v, some (.ref p), some (.ref t), some (.ref q), c4, c5] H
    walk_at "go"
    refine i_len (len_l (sq_l (SL.get (by walk_at "mem") y))) ?_
    walk_at "go"
    refine i_len (len_t (st_t et)) ?_
    walk_at "go"
    by_cases hn : acc.length < es.length
    · refine x_dt (decide_eq_true (by omega)) ?_
      have hd' := List.getElem?_eq_getElem hn
      generalize es[acc.length] = d' at hd'
      have hv' : vs[acc.length]? = some (vs[acc.length]'(by omega)) := List.getElem?_eq_getElem (by omega)
      generalize vs[acc.length]'(by omega) = part at hv'
      have tp' := hvs _ _ _ hv' hd'
      have y := y.dupF (A := TupA part d') tp'.fix
      have zd := szAll_at za hd'
      have hcost := costs_at hd'
      walk_at "go"
      refine i_len (len_l (sq_l (SL.get (by walk_at "mem") y))) ?_
      refine s_tup (st_t et) hv' ?_
      walk_at "go"
      rename_i tp2 H2 y2
      have tp2' : TD H2 part d' := SL.up (A := TupA part d') (fun _ _ => TupA.up) (by walk_at "mem") y2
      refine isi2 y2 tp2' ?_
      cases hg : gTup (kd d') with
      | false =>
        have hc1 := gTup_no hg
        walk_at "go"
        refine x_bm .append (by decide) (ty_l (sq_l (SL.get (p := q) (by walk_at "mem") y2))) ?_
        walk_at "go"
        refine m_app (p := q) (y := part) (xs := acc) y2 (by walk_at "rp") (by omega) fun H3 y3 => ?_
        walk_at "go"
        refine ⟨m - 1, by omega, ⟨fs, a, q, .ref t, es, acc ++ [part], m', ?_, by omega, hz2, ?_⟩, _, _, _, _, rfl⟩
        · rw [List.length_append, List.length_singleton]
          omega
        · have t3 : TD H3 part d' := SL.up (A := TupA part d') (fun _ _ => TupA.up) (by walk_at "mem") y3
          have a3 : AccA acc es H3 := SL.up (A := AccA acc es) (fun _ _ => AccA.up) (by walk_at "mem") y3
          have y4 := ((y3.tail).drop (A := TupA part d') (by walk_at "pk")).drop (A := AccA acc es) (by walk_at "pk")
          have y5 := y4.dupF (A := AccA (acc ++ [part]) es) (a3.snoc t3 hd').fix
          exact SL.p4 (A := pt p (.lst (fs.reverse ++ [.ref a]))) (B := pt a (.tup [.ref t, .ref q])) (C := pt q (.lst (acc ++ [part]))) (D := TupA (.ref t) (.tuple es)) y5 (by walk_at "pk") (by walk_at "pk") (by walk_at "pk") (by walk_at "pk")
      | true =>
        obtain ⟨ds', rfl⟩ := gTup_inv hg
        have hc2 : costD (.tuple ds') = 2 + costs ds' := rfl
        walk_at "go"
        refine x_bm .append (by decide) (ty_l (sq_l (SL.get (p := p) (by walk_at "mem") y2))) ?_
        walk_at "go"
        rename_i q2 H3 y3 a2 H4 y4
        refine m_app (p := p) (y := .ref a2) (xs := fs.reverse ++ [.ref a]) y4 (by walk_at "rp") (by simp; omega) fun H5 y5 => ?_
        walk_at "go"
        refine ⟨m - 1, by omega, ⟨.ref a :: fs, a2, q2, part, ds', [], 1 + costs (es.drop (acc.length + 1)) + m', ?_, by simp only [List.length_cons]; omega, zd, ?_⟩, _, _, _, _, rfl⟩
        · simp only [List.length_nil, List.drop_zero]
          omega
        · have y6 := y5.dupF (A := AccA [] ds') ⟨Nat.zero_le _, fun i v d a _ => by simp at a⟩
          have y7 := SL.p6 (A := pt a (.tup [.ref t, .ref q])) (B := pt q (.lst acc)) (C := TupA (.ref t) (.tuple es)) (D := AccA acc es) (E := StkA (.tuple ds) fs (.tuple es) m') (F := pt tp2 (.tup [.ty "tuple", .ty "list"])) y6 (by walk_at "pk") (by walk_at "pk") (by walk_at "pk") (by walk_at "pk") (by walk_at "pk") (by walk_at "pk")
          have y8 := SL.uncons (m := [_, _, _, _, _]) (A := StkA (.tuple ds) (.ref a :: fs) (.tuple ds') (1 + costs (es.drop (acc.length + 1)) + m')) y7 fun h z => ⟨a, q, .ref t, es, acc, m', rfl, hd', rfl, hz2, z⟩
          have y9 := y8.drop (A := pt tp2 (.tup [.ty "tuple", .ty "list"])) (by walk_at "pk")
          rw [show (V.ref a :: fs).reverse ++ [V.ref a2] = fs.reverse ++ [V.ref a] ++ [V.ref a2] by simp]
          exact SL.p6 (A := pt p (.lst (fs.reverse ++ [V.ref a] ++ [V.ref a2]))) (B := pt a2 (.tup [part, .ref q2])) (C := pt q2 (.lst [])) (D := TupA part (.tuple ds')) (E := AccA [] ds') (F := StkA (.tuple ds) (.ref a :: fs) (.tuple ds') (1 + costs (es.drop (acc.length + 1)) + m')) y9 (by walk_at "pk") (by walk_at "pk") (by walk_at "pk") (by walk_at "pk") (by walk_at "pk") (by walk_at "pk")
    · have hlen : acc.length = es.length := by have := hacc.1; omega
      refine x_df (decide_eq_false (by omega)) ?_
      walk_at "go"
      refine x_bm .pop (by decide) (ty_l (sq_l (SL.get (p := p) (by walk_at "mem") y))) ?_
      walk_at "go"
      refine m_pop (p := p) (xs := fs.reverse ++ [.ref a]) y (by walk_at "rp") hlast fun H2 y2 => ?_
      rw [List.dropLast_concat] at y2
      walk_at "go"
      have tt : TD H2 (.ref t) (.tuple es) := SL.up (A := TupA (.ref t) (.tuple es)) (fun _ _ => TupA.up) (by walk_at "mem") y2
      refine isi_dp ok_tup (d := .tuple es) tt.dp ?_
      walk_at "go"
      refine ⟨q, acc, rfl, .inl ⟨sq_l (SL.get (by walk_at "mem") y2), fun w hw => ?_⟩⟩
      have y3 := y2.new (.tup acc) hw
      generalize upd H2 w (.tup acc) = H3 at y3
      have a3 : AccA acc es H3 := SL.up (A := AccA acc es) (fun _ _ => AccA.up) (by walk_at "mem") y3
      have w3 : TD H3 (.ref w) (.tuple es) := .tup (SL.get (.head _) y3) hlen a3.2
      have y4 := (y3.tail).dupF (A := TupA (.ref w) (.tuple es)) w3.fix
      show wSs R k _ _ _ [some v, some (.ref p), some (.ref t), some (.ref q), c4, some (.ref w)] H3
      walk_at "go"
      refine tr_lst (sq_l (SL.get (p := p) (by walk_at "mem") y4)) ?_
      cases fs with
      | nil =>
        obtain ⟨y5, y6⟩ := SL.fact (P := PyData.tuple es = .tuple ds ∧ m' = 0) (SL.p1 (A := StkA (.tuple ds) [] (.tuple es) m') y4 (by walk_at "pk"))
        cases y5.1
        walk_at "go"
        refine hq (.ref w) H3 ?_
        exact ((((y6.drop (A := pt p _) (.tl .hd)).drop (A := pt a _) (.tl .hd)).drop (A := pt q _) (.tl .hd)).drop (.tl .hd)).drop (A := AccA acc ds) (.tl .hd)
      | cons f fs =>
        have y5 := SL.p1 (A := StkA (.tuple ds) (f :: fs) (.tuple es) m') y4 (by walk_at "pk")
        have y5 : SL ((fun h => ∃ (a q : Addr) (src : V) (ds2 : List PyData) (acc : List V) (m2 : Nat), f = .ref a ∧ ds2[acc.length]? = some (.tuple es) ∧ m' = 1 + costs (ds2.drop (acc.length + 1)) + m2 ∧ szB (.tuple ds2) = true ∧
          SL [pt a (.tup [src, .ref q]), pt q (.lst acc), TupA src (.tuple ds2), AccA acc ds2, StkA (.tuple ds) fs (.tuple ds2) m2] h) :: _) H3 := y5
        obtain ⟨a2, y5⟩ := y5.ex
        obtain ⟨q2, y5⟩ := y5.ex
        obtain ⟨src2, y5⟩ := y5.ex
        obtain ⟨es2, y5⟩ := y5.ex
        obtain ⟨acc2, y5⟩ := y5.ex
        obtain ⟨m2, y5⟩ := y5.ex
        obtain ⟨rfl, y5⟩ := y5.pure
        obtain ⟨he2, y5⟩ := y5.pure
        obtain ⟨hm2, y5⟩ := y5.pure
        obtain ⟨hz3, y5⟩ := y5.pure
        have y5 := y5.nest
        obtain ⟨zl2, _⟩ := szB_le hz3
        have hi2 := (List.getElem?_eq_some_iff.mp he2).1
        have hrev : (V.ref a2 :: fs).reverse = fs.reverse ++ [V.ref a2] := by simp
        rw [hrev] at y5
        have hlast2 : (fs.reverse ++ [V.ref a2])[(fs.reverse ++ [V.ref a2]).length - 1]? = some (.ref a2) := by simp
        rw [hrev, show (fs.reverse ++ [V.ref a2]).isEmpty = false by cases fs.reverse <;> rfl]
        walk_at "go"
        refine s_m1 (p := p) y5 (by walk_at "mem") hlast2 ?_
        walk_at "go"
        refine s_tup (i := 1) (v := .ref q2) (st_t (SL.get (p := a2) (by walk_at "mem") y5)) rfl ?_
        refine x_bm .append (by decide) (ty_l (sq_l (SL.get (p := q2) (by walk_at "mem") y5))) ?_
        walk_at "go"
        refine m_app (p := q2) (y := .ref w) (xs := acc2) y5 (by walk_at "rp") (by omega) fun H4 y6 => ?_
        walk_at "go"
        refine ⟨1 + costs (es2.drop (acc2.length + 1)) + m2, by omega, ⟨fs, a2, q2, src2, es2, acc2 ++ [.ref w], m2, ?_, ?_, hz3, ?_⟩, _, _, _, _, rfl⟩
        · rw [List.length_append, List.length_singleton]
        · simp only [List.length_cons] at hb
          omega
        · have t4 : TD H4 (.ref w) (.tuple es) := SL.up (A := TupA (.ref w) (.tuple es)) (fun _ _ => TupA.up) (by walk_at "mem") y6
          have a4 : AccA acc2 es2 H4 := SL.up (A := AccA acc2 es2) (fun _ _ => AccA.up) (by walk_at "mem") y6
          have y7 := ((((((y6.drop (A := AccA acc2 es2) (by walk_at "pk")).drop (A := TupA (.ref w) (.tuple es)) (by walk_at "pk")).drop (A := pt a (.tup [.ref t, .ref q])) (by walk_at "pk")).drop (A := pt q (.lst acc)) (by walk_at "pk")).drop (A := TupA (.ref t) (.tuple es)) (by walk_at "pk")).drop (A := AccA acc es) (by walk_at "pk"))
          have y8 := y7.dupF (A := AccA (acc2 ++ [.ref w]) es2) (a4.snoc t4 he2).fix
          exact SL.p6 (A := pt p (.lst (fs.reverse ++ [.ref a2]))) (B := pt a2 (.tup [src2, .ref q2])) (C := pt q2 (.lst (acc2 ++ [.ref w]))) (D := TupA src2 (.tuple es2)) (E := AccA (acc2 ++ [.ref w]) es2) (F := StkA (.tuple ds) fs (.tuple es2) m2) y8 (by walk_at "pk") (by walk_at "pk") (by walk_at "pk") (by walk_at "pk") (by walk_at "pk") (by walk_at "pk")

end Zw

set_option Elab.async false
set_option linter.all false
set_option maxRecDepth 100000
set_option maxHeartbeats 4000000
namespace Zw
open PySem PySem.Spec PyProof.Rows L2
local macro_rules | `(tactic| walk_at "mem") => `(tactic| (first | exact List.Mem.head _ | (apply List.Mem.tail; walk_at "mem")))
local macro_rules | `(tactic| walk_at "rp") => `(tactic| (first | exact Rp.hd | (apply Rp.tl; walk_at "rp")))
local macro_rules | `(tactic| walk_at "pk") => `(tactic| (first | exact Pk.hd | (apply Pk.tl; walk_at "pk")))
local macro_rules | `(tactic| walk_at "go1") => `(tactic| with_reducible (first
  | refine q_set ?_ | refine q_exp ?_ | refine q_doc ?_ | refine q_pass ?_ | refine q_ret ?_ | refine q_retN ?_ | refine q_brk ?_ | refine q_cont ?_ | refine q_if ?_ | refine q_par ?_ | refine q_setFld ?_ | refine q_setSub ?_ | refine q_for ?_
  | refine e_int ?_ | refine e_str ?_ | refine e_bl ?_ | refine e_non ?_ | refine e_bin ?_ | refine e_neg ?_ | refine e_nt ?_ | refine e_cmp ?_ | refine e_chain ?_ | refine e_and ?_ | refine e_or ?_ | refine e_ife ?_ | refine e_fld ?_ | refine e_sub ?_ | refine e_tup ?_ | refine e_lst ?_ | refine e_bi ?_ | refine e_meth ?_
  | refine es_nil ?_ | refine es_cons ?_ | refine t_yes ?_ | refine t_nt ?_ | refine t_and ?_ | refine t_or ?_ | refine t_cmp ?_ | refine t_val ?_ | refine i_seq ?_ | refine i_rng ?_
  | refine x_bl ?_ | refine x_in ?_ | refine tr_bl ?_ | refine tr_int ?_ | refine tr_non ?_
  | refine b_add ?_ | refine b_sub ?_ | refine c_lt ?_ | refine c_le ?_ | refine c_gt ?_ | refine c_ge ?_ | refine c_is ?_ | refine c_isnt ?_ | refine i_intB ?_ | refine c_eqI ?_ | refine c_neI ?_ | refine c_eqB ?_ | refine c_neB ?_ | refine c_eqS ?_ | refine q_nil ?_ | refine x_itt ?_ | refine x_iff ?_))
local macro_rules | `(tactic| walk_at "go2") => `(tactic| (first
  | ((with_reducible refine' e_var ?hg ?hh); (case hg => rfl))
  | ((with_reducible refine' s_0 ?hx ?hm ?hg ?hh); (case hx => assumption); (case hm => walk_at "mem"); (case hg => rfl))
  | ((with_reducible refine' s_1 ?hx ?hm ?hg ?hh); (case hx => assumption); (case hm => walk_at "mem"); (case hg => rfl))
  | ((with_reducible refine' s_2 ?hx ?hm ?hg ?hh); (case hx => assumption); (case hm => walk_at "mem"); (case hg => rfl))
  | ((with_reducible refine' p_0 ?hx ?hr ?hb ?hh); (case hx => assumption); (case hr => walk_at "rp"); (case hb => first | (simp; done) | decide); intros)
  | ((with_reducible refine' p_1 ?hx ?hr ?hb ?hh); (case hx => assumption); (case hr => walk_at "rp"); (case hb => first | (simp; done) | decide); intros)
  | ((with_reducible refine' n_lst ?hx ?hb ?hh); (case hx => assumption); (case hb => first | decide | (simp only [List.length_cons, List.length_nil]; decide)); intros)
  | ((with_reducible refine' n_tup ?hx ?hb ?hh); (case hx => assumption); (case hb => first | decide | (simp only [List.length_cons, List.length_nil]; decide)); intros)))
local macro_rules | `(tactic| walk_at "go") => `(tactic| repeat (first | walk_at "go1" | walk_at "go2"))
local macro_rules | `(tactic| walk_at "go2") => `(tactic| (first
  | ((with_reducible refine' e_ty ?hg ?hh); (case hg => rfl))
  | ((with_reducible refine' isi_dp ok_bl ?hx ?hh); (case hx => assumption))
  | ((with_reducible refine' isi_dp ok_int ?hx ?hh); (case hx => assumption))
  | ((with_reducible refine' isi_dp ok_str ?hx ?hh); (case hx => assumption))
  | ((with_reducible refine' isi_dp ok_tup ?hx ?hh); (case hx => assumption))
  | ((with_reducible refine' isi_dp ok_lst ?hx ?hh); (case hx => assumption))
  | ((with_reducible refine' x_dt ?hc ?hh); (case hc => rfl))
  | ((with_reducible refine' x_df ?hc ?hh); (case hc => rfl))))
/-! ## the law's own bench -/
def refD : Option Str → PyData
  | none => .none
  | some nm => .tuple [.str nm, .int 0]
def ODiskA (v : V) : Option Dk → HP
  | none => fun _ => v = .non
  | some k => fun h => ∃ a bv lv, v = .ref a ∧ SL [pt a (.dK [(.inr "blocks", bv), (.inr "sheet", lv)]), BlocksA bv k.blocks, TupA lv k.laid] h
abbrev ownO (p : Addr) (lf : Option Nat) (st : Bool) (dn : Nat) : HO := .dK [(.inr "disks", .ref p), (.inr "left", leftV lf), (.inr "stands", .bl st), (.inr "many", .int (dn : Nat))]
def OwnA (o : Addr) (s : Bst) : HP := fun h => ∃ p vs, SL [pt o (ownO p s.left s.stop s.done), pt p (.lst vs), All2 ODiskA vs s.disks] h
section
variable {o : Addr} {s : Bst} {l : List HP} {H : Hp}
theorem OwnA.out (y : SL (OwnA o s :: l) H) : ∃ p vs, SL (pt o (ownO p s.left s.stop s.done) :: pt p (.lst vs) :: All2 ODiskA vs s.disks :: l) H := by
  obtain ⟨p, y⟩ := y.ex
  obtain ⟨vs, y⟩ := y.ex
  exact ⟨p, vs, y.nest⟩
theorem OwnA.mk {p : Addr} {vs : List V} (y : SL (pt o (ownO p s.left s.stop s.done) :: pt p (.lst vs) :: All2 ODiskA vs s.disks :: l) H) : SL (OwnA o s :: l) H :=
  SL.uncons (m := [_, _, _]) y fun h z => ⟨p, vs, z⟩
theorem ODiskA.out {v : V} {k : Dk} (y : SL (ODiskA v (some k) :: l) H) : ∃ a bv lv, v = .ref a ∧ SL (pt a (.dK [(.inr "blocks", bv), (.inr "sheet", lv)]) :: BlocksA bv k.blocks :: TupA lv k.laid :: l) H := by
  have y : SL ((fun h => ∃ a bv lv, v = .ref a ∧ SL [pt a (.dK [(.inr "blocks", bv), (.inr "sheet", lv)]), BlocksA bv k.blocks, TupA lv k.laid] h) :: l) H := y
  obtain ⟨a, y⟩ := y.ex
  obtain ⟨bv, y⟩ := y.ex
  obtain ⟨lv, y⟩ := y.ex
  obtain ⟨e, y⟩ := y.pure
  exact ⟨a, bv, lv, e, y.nest⟩
theorem ODiskA.mk {a : Addr} {bv lv : V} {k : Dk} (y : SL (pt a (.dK [(.inr "blocks", bv), (.inr "sheet", lv)]) :: BlocksA bv k.blocks :: TupA lv k.laid :: l) H) : SL (ODiskA (.ref a) (some k) :: l) H :=
  SL.uncons (m := [_, _, _]) y fun h z => ⟨a, bv, lv, rfl, z⟩
theorem ODiskA.no {v : V} (y : SL (ODiskA v none :: l) H) : v = .non ∧ SL l H := SL.fact (P := v = .non) y
theorem odisk_at {vs : List V} {ds : List (Option Dk)} {d : Nat} {o : Option Dk} (y : SL (All2 ODiskA vs ds :: l) H) (hd : ds[d]? = some o) : ∃ v, vs[d]? = some v ∧ (o = none → v = .non) ∧ ∀ k, o = some k → ∃ a, v = .ref a := by
  have hl := All2.len y
  have hi : d < vs.length := by
    have := (List.getElem?_eq_some_iff.mp hd).1
    omega
  have e := List.getElem?_eq_getElem hi
  have z := All2.open e hd y
  refine ⟨_, e, fun h => ?_, fun k h => ?_⟩
  · subst h
    exact (ODiskA.no z).1
  · subst h
    obtain ⟨a, _, _, e, _⟩ := ODiskA.out z
    exact ⟨a, e⟩
end
theorem k_dl : ¬ ((.inr "disks" : Key) = .inr "left") := by decide +kernel
theorem k_ds : ¬ ((.inr "disks" : Key) = .inr "stands") := by decide +kernel
theorem k_dm : ¬ ((.inr "disks" : Key) = .inr "many") := by decide +kernel
theorem k_ls : ¬ ((.inr "left" : Key) = .inr "stands") := by decide +kernel
theorem k_lm : ¬ ((.inr "left" : Key) = .inr "many") := by decide +kernel
theorem k_sl : ¬ ((.inr "stands" : Key) = .inr "left") := by decide +kernel
theorem k_sm : ¬ ((.inr "stands" : Key) = .inr "many") := by decide +kernel
theorem k_ml : ¬ ((.inr "many" : Key) = .inr "left") := by decide +kernel
theorem k_ms : ¬ ((.inr "many" : Key) = .inr "stands") := by decide +kernel
theorem k_bs : ¬ ((.inr "blocks" : Key) = .inr "sheet") := by decide +kernel
section
variable {p : Addr} {lf : Option Nat} {st : Bool} {dn : Nat}
theorem own_disks : valV [(.inr "disks", .ref p), (.inr "left", leftV lf), (.inr "stands", .bl st), (.inr "many", .int (dn : Nat))] ((.inr "disks" : Key)) = some (.ref p) := valV_pos rfl
theorem own_left : valV [(.inr "disks", .ref p), (.inr "left", leftV lf), (.inr "stands", .bl st), (.inr "many", .int (dn : Nat))] ((.inr "left" : Key)) = some (leftV lf) := by
  rw [valV_neg k_dl]
  exact valV_pos rfl
theorem own_stands : valV [(.inr "disks", .ref p), (.inr "left", leftV lf), (.inr "stands", .bl st), (.inr "many", .int (dn : Nat))] ((.inr "stands" : Key)) = some (.bl st) := by
  rw [valV_neg k_ds, valV_neg k_ls]
  exact valV_pos rfl
theorem own_many : valV [(.inr "disks", .ref p), (.inr "left", leftV lf), (.inr "stands", .bl st), (.inr "many", .int (dn : Nat))] ((.inr "many" : Key)) = some (.int (dn : Nat)) := by
  rw [valV_neg k_dm, valV_neg k_lm, valV_neg k_sm]
  exact valV_pos rfl
theorem od_blocks {bv lv : V} : valV [(.inr "blocks", bv), (.inr "sheet", lv)] ((.inr "blocks" : Key)) = some bv := valV_pos rfl
theorem od_sheet {bv lv : V} : valV [(.inr "blocks", bv), (.inr "sheet", lv)] ((.inr "sheet" : Key)) = some lv := by
  rw [valV_neg k_bs]
  exact valV_pos rfl
theorem put_keys {kvs : List (Key × V)} {z : Key} {v : V} {ks : List Key} (hk : kvs.map (·.1) = ks) (hm : z ∈ ks) : putK kvs z v = kvs.map (fun kv => if kv.1 = z then (kv.1, v) else kv) := by
  unfold putK
  rw [if_pos]
  rw [List.any_eq_true]
  rw [← hk] at hm
  obtain ⟨kv, h1, h2⟩ := List.mem_map.mp hm
  exact ⟨kv, h1, by rw [h2]; exact decide_eq_true rfl⟩
theorem own_putL {v : V} : putK [(.inr "disks", .ref p), (.inr "left", leftV lf), (.inr "stands", .bl st), (.inr "many", .int (dn : Nat))] ((.inr "left" : Key)) v = [(.inr "disks", .ref p), (.inr "left", v), (.inr "stands", .bl st), (.inr "many", .int (dn : Nat))] := by
  rw [put_keys (ks := [.inr "disks", .inr "left", .inr "stands", .inr "many"]) rfl (by walk_at "mem")]
  simp only [List.map_cons, List.map_nil, k_dl, k_ds, k_dm, k_ls, k_lm, k_sl, k_sm, k_ml, k_ms, k_bs, ↓reduceIte]
theorem own_putS {v : V} : putK [(.inr "disks", .ref p), (.inr "left", leftV lf), (.inr "stands", .bl st), (.inr "many", .int (dn : Nat))] ((.inr "stands" : Key)) v = [(.inr "disks", .ref p), (.inr "left", leftV lf), (.inr "stands", v), (.inr "many", .int (dn : Nat))] := by
  rw [put_keys (ks := [.inr "disks", .inr "left", .inr "stands", .inr "many"]) rfl (by walk_at "mem")]
  simp only [List.map_cons, List.map_nil, k_dl, k_ds, k_dm, k_ls, k_lm, k_sl, k_sm, k_ml, k_ms, k_bs, ↓reduceIte]
theorem own_putM {v : V} : putK [(.inr "disks", .ref p), (.inr "left", leftV lf), (.inr "stands", .bl st), (.inr "many", .int (dn : Nat))] ((.inr "many" : Key)) v = [(.inr "disks", .ref p), (.inr "left", leftV lf), (.inr "stands", .bl st), (.inr "many", v)] := by
  rw [put_keys (ks := [.inr "disks", .inr "left", .inr "stands", .inr "many"]) rfl (by walk_at "mem")]
  simp only [List.map_cons, List.map_nil, k_dl, k_ds, k_dm, k_ls, k_lm, k_sl, k_sm, k_ml, k_ms, k_bs, ↓reduceIte]
theorem od_putS {bv lv v : V} : putK [(.inr "blocks", bv), (.inr "sheet", lv)] ((.inr "sheet" : Key)) v = [(.inr "blocks", bv), (.inr "sheet", v)] := by
  rw [put_keys (ks := [.inr "blocks", .inr "sheet"]) rfl (by walk_at "mem")]
  simp only [List.map_cons, List.map_nil, k_dl, k_ds, k_dm, k_ls, k_lm, k_sl, k_sm, k_ml, k_ms, k_bs, ↓reduceIte]
end
/-! ### the law's deed -/
def N_deed : List Str := ["_law_own", "_law_disk_here"]
def b_deed : Ss := (.cons (.ifs (.val (.sub (.var 0) (.str "stands")))
  (.cons (.ret (.tup (.cons (.str "Stopped") (.cons (.int 0) .nil))))
  .nil)
  .nil)
  (.cons (.ifs (.cmp (.cmp .Is (.sub (.sub (.var 0) (.str "disks")) (.var 1)) .non))
  (.cons (.ret (.tup (.cons (.str "NoDisk") (.cons (.int 0) .nil))))
  .nil)
  .nil)
  (.cons (.ifs (.cmp (.cmp .Eq (.sub (.var 0) (.str "left")) (.int 0)))
  (.cons (.setSub (.var 0) (.str "stands") (.bl true))
  (.cons (.ret (.tup (.cons (.str "Stopped") (.cons (.int 0) .nil))))
  .nil))
  .nil)
  (.cons (.setSub (.var 0) (.str "left") (.ife (.cmp (.cmp .IsNot (.sub (.var 0) (.str "left")) .non)) (.bin .Sub (.sub (.var 0) (.str "left")) (.int 1)) .non))
  (.cons (.setSub (.var 0) (.str "many") (.bin .Add (.sub (.var 0) (.str "many")) (.int 1)))
  (.cons (.ret .non)
  .nil))))))
def spDeed : Sp := fun vs H Q _ => ∃ (o p : Addr) (us : List V) (s : Bst) (l : List HP) (d : Nat), vs = [.ref o, .int (d : Nat)] ∧ d < s.disks.length ∧ SL (pt o (ownO p s.left s.stop s.done) :: pt p (.lst us) :: All2 ODiskA us s.disks :: l) H ∧
  ∀ v H', SL (TupA v (refD (deedB s d id).2) :: pt o (ownO p (deedB s d id).1.left (deedB s d id).1.stop (deedB s d id).1.done) :: pt p (.lst us) :: All2 ODiskA us s.disks :: l) H' → Q v H'
theorem td_ref {p : Addr} {nm : Str} {l : List HP} {H : Hp} (y : SL (pt p (.tup [.str nm, .int 0]) :: l) H) : SL (TupA (.ref p) (refD (some nm)) :: l) H :=
  y.imp fun h (e : h p = some _) => TD.tup (ds := [.str nm, .int 0]) e rfl fun i v d a b => by
    rcases i with _ | _ | i
    · cases a; cases b; exact .str _
    · cases a; cases b; exact .int _
    · cases a
theorem td_non {l : List HP} {H : Hp} (y : SL l H) : SL (TupA .non (refD none) :: l) H := y.dupF (A := TupA .non .none) TD.non
theorem w_deed {R : Rx} {k : Nat} {vs : List V} {H : Hp} {Q : VK} {X : XK} (h : spDeed vs H Q X) :
    wSs R k b_deed (fun cls d _ H' => X cls d H') { nx := fun _ H' => Q .non H', rt := Q } (L2.start N_deed vs) H := by
  obtain ⟨o, p, vs, s, l, d, rfl, hd, y, hq⟩ := h
  have sz : (500 : Nat) < sizeLine := by rw [sizeLine_eq]; decide
  have e := List.getElem?_eq_getElem hd
  obtain ⟨v, hv1, hv2, hv3⟩ := odisk_at y.tail.tail e
  show wSs R k b_deed _ _ [some (.ref o), some (.int (d : Nat))] H
  unfold b_deed
  walk_at "go"
  refine s_z y (.head _) own_stands ?_
  walk_at "go"
  refine x_ite (fun hs => ?_) fun hs => ?_
  · walk_at "go"
    rename_i q H2 z
    have g : goneB s d = some ("Stopped" : Str) := by unfold goneB; rw [if_pos hs]
    rw [deedB_gone g] at hq
    exact hq _ _ (td_ref z)
  · walk_at "go"
    refine s_z y (.head _) own_disks ?_
    walk_at "go"
    refine s_at y (by walk_at "mem") hv1 ?_
    walk_at "go"
    cases ho : s.disks[d] with
    | none =>
      obtain rfl := hv2 ho
      walk_at "go"
      rename_i q H2 z
      have g : goneB s d = some ("NoDisk" : Str) := by unfold goneB; rw [hs, if_neg Bool.false_ne_true, e, ho]
      rw [deedB_gone g] at hq
      exact hq _ _ (td_ref z)
    | some kd =>
      obtain ⟨a, rfl⟩ := hv3 kd ho
      have hk : s.disks[d]? = some (some kd) := by rw [e, ho]
      refine x_df (by simp) ?_
      walk_at "go"
      refine s_z y (.head _) own_left ?_
      walk_at "go"
      cases hl : s.left with
      | none =>
        refine c_eq rfl ?_
        walk_at "go"
        refine s_z y (.head _) own_left ?_
        walk_at "go"
        rw [hl]
        walk_at "go"
        refine p_dct y .hd (show (4 : Nat) < _ by omega) fun H2 z => ?_
        rw [own_putL] at z
        walk_at "go"
        refine s_z (l := pt o (ownO p none s.stop s.done) :: _) z (.head _) own_many ?_
        walk_at "go"
        refine p_dct (l := pt o (ownO p none s.stop s.done) :: _) z .hd (show (4 : Nat) < _ by omega) fun H3 z => ?_
        rw [own_putM] at z
        walk_at "go"
        rw [deedB_yes hs hk (left' := none) (.inl ⟨hl, rfl⟩)] at hq
        simp only [id, set_same hk] at hq
        refine hq _ _ (td_non ?_)
        rw [hs] at z
        exact z
      | some m =>
        cases m with
        | zero =>
          refine c_eq rfl ?_
          walk_at "go"
          refine p_dct y .hd (show (4 : Nat) < _ by omega) fun H2 z => ?_
          rw [own_putS] at z
          walk_at "go"
          rename_i q H3 z3
          rw [deedB_end hs hk hl] at hq
          refine hq _ _ (td_ref z3)
        | succ m =>
          refine c_eq rfl ?_
          refine x_bl ?_
          refine x_df (decide_eq_false (fun c => by
            have c : V.int ((m + 1 : Nat) : Int) = V.int 0 := c
            injection c with c
            omega)) ?_
          walk_at "go"
          refine s_z y (.head _) own_left ?_
          walk_at "go"
          rw [hl]
          walk_at "go"
          refine s_z y (.head _) own_left ?_
          rw [hl]
          walk_at "go"
          refine b_sub ?_
          walk_at "go"
          refine p_dct y .hd (show (4 : Nat) < _ by omega) fun H2 z => ?_
          rw [own_putL, show (((m + 1 : Nat) : Int) - 1) = ((m : Nat) : Int) by omega] at z
          walk_at "go"
          refine s_z (l := pt o (ownO p (some m) s.stop s.done) :: _) z (.head _) own_many ?_
          walk_at "go"
          refine p_dct (l := pt o (ownO p (some m) s.stop s.done) :: _) z .hd (show (4 : Nat) < _ by omega) fun H3 z => ?_
          rw [own_putM] at z
          walk_at "go"
          rw [deedB_yes hs hk (left' := some m) (.inr ⟨m, hl, rfl⟩)] at hq
          simp only [id, set_same hk] at hq
          refine hq _ _ (td_non ?_)
          rw [hs] at z
          exact z

end Zw

set_option Elab.async false
set_option linter.all false
set_option maxRecDepth 100000
set_option maxHeartbeats 4000000
namespace Zw
open PySem PySem.Spec PyProof.Rows L2
local macro_rules | `(tactic| walk_at "mem") => `(tactic| (first | exact List.Mem.head _ | (apply List.Mem.tail; walk_at "mem")))
local macro_rules | `(tactic| walk_at "rp") => `(tactic| (first | exact Rp.hd | (apply Rp.tl; walk_at "rp")))
local macro_rules | `(tactic| walk_at "pk") => `(tactic| (first | exact Pk.hd | (apply Pk.tl; walk_at "pk")))
local macro_rules | `(tactic| walk_at "go1") => `(tactic| with_reducible (first
  | refine q_set ?_ | refine q_exp ?_ | refine q_doc ?_ | refine q_pass ?_ | refine q_ret ?_ | refine q_retN ?_ | refine q_brk ?_ | refine q_cont ?_ | refine q_if ?_ | refine q_par ?_ | refine q_setFld ?_ | refine q_setSub ?_ | refine q_for ?_
  | refine e_int ?_ | refine e_str ?_ | refine e_bl ?_ | refine e_non ?_ | refine e_bin ?_ | refine e_neg ?_ | refine e_nt ?_ | refine e_cmp ?_ | refine e_chain ?_ | refine e_and ?_ | refine e_or ?_ | refine e_ife ?_ | refine e_fld ?_ | refine e_sub ?_ | refine e_tup ?_ | refine e_lst ?_ | refine e_bi ?_ | refine e_meth ?_
  | refine es_nil ?_ | refine es_cons ?_ | refine t_yes ?_ | refine t_nt ?_ | refine t_and ?_ | refine t_or ?_ | refine t_cmp ?_ | refine t_val ?_ | refine i_seq ?_ | refine i_rng ?_
  | refine x_bl ?_ | refine x_in ?_ | refine tr_bl ?_ | refine tr_int ?_ | refine tr_non ?_
  | refine b_add ?_ | refine b_sub ?_ | refine c_lt ?_ | refine c_le ?_ | refine c_gt ?_ | refine c_ge ?_ | refine c_is ?_ | refine c_isnt ?_ | refine i_intB ?_ | refine c_eqI ?_ | refine c_neI ?_ | refine c_eqB ?_ | refine c_neB ?_ | refine c_eqS ?_ | refine q_nil ?_ | refine x_itt ?_ | refine x_iff ?_))
local macro_rules | `(tactic| walk_at "go2") => `(tactic| (first
  | ((with_reducible refine' e_var ?hg ?hh); (case hg => rfl))
  | ((with_reducible refine' s_0 ?hx ?hm ?hg ?hh); (case hx => assumption); (case hm => walk_at "mem"); (case hg => rfl))
  | ((with_reducible refine' s_1 ?hx ?hm ?hg ?hh); (case hx => assumption); (case hm => walk_at "mem"); (case hg => rfl))
  | ((with_reducible refine' s_2 ?hx ?hm ?hg ?hh); (case hx => assumption); (case hm => walk_at "mem"); (case hg => rfl))
  | ((with_reducible refine' p_0 ?hx ?hr ?hb ?hh); (case hx => assumption); (case hr => walk_at "rp"); (case hb => first | (simp; done) | decide); intros)
  | ((with_reducible refine' p_1 ?hx ?hr ?hb ?hh); (case hx => assumption); (case hr => walk_at "rp"); (case hb => first | (simp; done) | decide); intros)
  | ((with_reducible refine' n_lst ?hx ?hb ?hh); (case hx => assumption); (case hb => first | decide | (simp only [List.length_cons, List.length_nil]; decide)); intros)
  | ((with_reducible refine' n_tup ?hx ?hb ?hh); (case hx => assumption); (case hb => first | decide | (simp only [List.length_cons, List.length_nil]; decide)); intros)))
local macro_rules | `(tactic| walk_at "go") => `(tactic| repeat (first | walk_at "go1" | walk_at "go2"))
local macro_rules | `(tactic| walk_at "go2") => `(tactic| (first
  | ((with_reducible refine' e_ty ?hg ?hh); (case hg => rfl))
  | ((with_reducible refine' isi_dp ok_bl ?hx ?hh); (case hx => assumption))
  | ((with_reducible refine' isi_dp ok_int ?hx ?hh); (case hx => assumption))
  | ((with_reducible refine' isi_dp ok_str ?hx ?hh); (case hx => assumption))
  | ((with_reducible refine' isi_dp ok_tup ?hx ?hh); (case hx => assumption))
  | ((with_reducible refine' isi_dp ok_lst ?hx ?hh); (case hx => assumption))
  | ((with_reducible refine' x_dt ?hc ?hh); (case hc => rfl))
  | ((with_reducible refine' x_df ?hc ?hh); (case hc => rfl))))
section
variable {R : Rx} {k : Nat} {W : WX} {σ : L2.St} {H : Hp} {Q : VK} {l l' : List HP}
theorem e_dctG {es : Es} (x : SL l H) (h : ∀ p H1, SL (pt p (.dK []) :: l) H1 → tPairs (wPs R k es W) σ H1 fun ps H2 => H2 p = some (.dK []) ∧ ∃ kvs : List (Key × V), ps = kvs.map (fun kv => (kV kv.1, kv.2)) ∧ kvs.length ≤ 15 ∧ Q (.ref p) (upd H2 p (.dK (mergeK [] kvs)))) : wE R k (.dct es) W σ H Q :=
  fun p hn => h p _ (x.new _ hn)
theorem dct_end {p : Addr} {ps : List (V × V)} (kvs kvs' : List (Key × V)) (hm : mergeK [] kvs = kvs') (hp : ps = kvs.map (fun kv => (kV kv.1, kv.2))) (b : kvs.length ≤ 15) (x : SL l H) (r : Rp (pt p (.dK [])) (pt p (.dK kvs')) l l') (h : ∀ H', SL l' H' → Q (.ref p) H') :
    H p = some (.dK []) ∧ ∃ kvs : List (Key × V), ps = kvs.map (fun kv => (kV kv.1, kv.2)) ∧ kvs.length ≤ 15 ∧ Q (.ref p) (upd H p (.dK (mergeK [] kvs))) := by
  refine ⟨SL.get r.mem x, kvs, hp, b, h _ ?_⟩
  rw [hm]
  exact x.wr r rfl
theorem tp_cons {a b : E} {es : Es} {Q : List (V × V) → Hp → Prop} (h : wE R k a W σ H fun x H1 => wE R k b W σ H1 fun y H2 => tPairs (wPs R k es W) σ H2 fun ps H3 => Q ((x, y) :: ps) H3) : tPairs (wPs R k (.cons a (.cons b es)) W) σ H Q := h
theorem tp_nil {Q : List (V × V) → Hp → Prop} (h : Q [] H) : tPairs (wPs R k .nil W) σ H Q := h
theorem merge2 {a b : V} : mergeK [] [((.inr "blocks" : Key), a), (.inr "sheet", b)] = [(.inr "blocks", a), (.inr "sheet", b)] := by
  simp [mergeK, putK, k_bs, -Sum.inr.injEq]
theorem merge4 {a b c d : V} : mergeK [] [((.inr "disks" : Key), a), (.inr "left", b), (.inr "stands", c), (.inr "many", d)] = [(.inr "disks", a), (.inr "left", b), (.inr "stands", c), (.inr "many", d)] := by
  simp [mergeK, putK, k_dl, k_ds, k_dm, k_ls, k_lm, k_sm, -Sum.inr.injEq]
end
def N_disk : List Str := ["_law_size", "_law_piece"]
def b_disk : Ss := (.cons (.ret (.dct (.cons (.str "blocks") (.cons (.comp (.bin .Mult (.lst (.cons (.int 0) .nil)) (.int 4)) (.nm 1) (.rng1 (.var 0)) .yes [1]) (.cons (.str "sheet") (.cons .non .nil))))))
  .nil)
def spODisk : Sp := fun vs H Q _ => ∃ (n : Nat) (l : List HP), vs = [.int (n : Nat)] ∧ n ≤ 12 ∧ SL l H ∧ ∀ a H', SL (ODiskA (.ref a) (some (freshDk n)) :: l) H' → Q (.ref a) H'
theorem w_disk {R : Rx} {k : Nat} {vs : List V} {H : Hp} {Q : VK} {X : XK} (h : spODisk vs H Q X) :
    wSs R k b_disk (fun cls d _ H' => X cls d H') { nx := fun _ H' => Q .non H', rt := Q } (L2.start N_disk vs) H := by
  obtain ⟨n, l, rfl, hn, x, hq⟩ := h
  have sz : (500 : Nat) < sizeLine := by rw [sizeLine_eq]; decide
  show wSs R k b_disk _ _ [some (.int (n : Nat)), none] H
  unfold b_disk
  walk_at "go"
  refine e_dctG x fun p H1 x1 => ?_
  refine tp_cons ?_
  walk_at "go"
  refine e_comp (i_rng ?_)
  walk_at "go"
  refine k_rng' (n := n) (fun t acc => All2 RowA acc (List.replicate t [0, 0, 0, 0]) :: pt p (.dK []) :: l) (by omega) (All2.nil x1) (fun t acc D H1 ht ha y => ?_) fun acc D H1 ha y => ?_
  · show wE R k _ W0 [some (.int (n : Nat)), some (.int (t : Nat))] H1 _
    walk_at "go"
    rename_i q0 H2 x2
    refine b_rep x2 (.head _) fun q H3 x3 => ?_
    refine CompN.of ha (by omega) ?_
    rw [← rep_snoc]
    have x4 := RowA.mk x3
    have x5 : SL (RowA (.ref q) [0, 0, 0, 0] :: All2 RowA acc (List.replicate t [0, 0, 0, 0]) :: pt D (.lst acc) :: pt q0 (.lst [.int 0]) :: pt p (.dK []) :: l) H3 := x4.p3 (by walk_at "pk") (by walk_at "pk") (by walk_at "pk")
    have x6 := All2.snoc x5
    exact (SL.drop (.tl (.tl .hd)) x6).swap
  · refine tp_cons ?_
    walk_at "go"
    refine tp_nil ?_
    refine dct_end [(.inr "blocks", .ref D), (.inr "sheet", .non)] _ merge2 rfl (show (2 : Nat) ≤ 15 by decide) y (.tl (.tl .hd)) fun H' z => hq p H' (ODiskA.mk (bv := .ref D) (lv := .non) (k := freshDk n) ?_)
    have z2 := (BlocksA.mk z).dupF (A := TupA .non .none) TD.non
    exact SL.p3 z2 (by walk_at "pk") (by walk_at "pk") (by walk_at "pk")
/-! ### told, and what is told -/
theorem tabs_up {T : List (Addr × Str)} : ∀ h h', Sub h h' → tabsOk T h → tabsOk T h' := fun h h' s t p hp => by
  obtain ⟨ps, h1, h2, h3⟩ := t p hp
  exact ⟨ps, s _ _ h1, h2, fun pos cv e => by
    obtain ⟨c, od, e1, e2⟩ := h3 pos cv e
    exact ⟨c, od, e1, s _ _ e2⟩⟩
def Nm2 (r : Option Str) : Prop := ∀ nm, r = some nm → nm = "Stopped" ∨ nm = "NoDisk"
theorem gone_nm {s : Bst} {d : Nat} : Nm2 (goneB s d) := fun nm h => by
  unfold goneB at h
  split at h
  · cases h; exact .inl rfl
  · split at h
    · cases h
    · cases h; exact .inr rfl
theorem come_nm {s : Bst} {d : Nat} : Nm2 (comeB s d) := fun nm h => by
  unfold comeB at h
  split at h
  · cases h; exact .inl rfl
  · split at h
    · cases h
    · cases h; exact .inr rfl
theorem deed_nm {s : Bst} {d : Nat} {f : Dk → Dk} : Nm2 (deedB s d f).2 := fun nm h => by
  cases hg : goneB s d with
  | some w =>
    rw [deedB_gone hg] at h
    cases h
    exact gone_nm _ hg
  | none =>
    obtain ⟨hs, k, hk⟩ := goneB_some hg
    cases hl : s.left with
    | none =>
      rw [deedB_yes hs hk (left' := none) (.inl ⟨hl, rfl⟩)] at h
      cases h
    | some m =>
      cases m with
      | zero =>
        rw [deedB_end hs hk hl] at h
        cases h
        exact .inl rfl
      | succ m =>
        rw [deedB_yes hs hk (left' := some m) (.inr ⟨m, hl, rfl⟩)] at h
        cases h
theorem SL.upd_new {l : List HP} {H : Hp} {d : Addr} {o : HO} (y : SL l H) (n : H d = none) : SL l (upd H d o) := (y.new o n).tail
/-- told(lambda: b), where b tells data or refuses -/
theorem e_toldT {R : Rx} {k j : Nat} {W : WX} {σ : L2.St} {H : Hp} {Q : VK} {g : Addr} {cls : Str → Addr} {b : E} {l l' : List HP} {r : Option Str} {rd : PyData} (N : HasZ R.toRt k "_law_told" g (spTold R.toRt (j + 1) cls)) (x : SL (tabsOk R.T :: l) H) (hn : Nm2 r) (hr : ∀ nm, r = some nm → rd = refD (some nm))
    (hb : ∀ (H1 : Hp) (Qn : VK) (En : XK), SL (tabsOk R.T :: l) H1 → (∀ v H', r = none → SL (TupA v rd :: tabsOk R.T :: l') H' → Qn v H') → (∀ nm H', r = some nm → SL (tabsOk R.T :: l') H' → Rsd En (cls nm) nm H') → wE R j b (fun c d _ H' => En c d H') σ H1 Qn)
    (hq : ∀ v H', SL (TupA v rd :: tabsOk R.T :: l') H' → Q v H') : wE R k (.callZ "_law_told" (.cons (.lam b) .nil)) W σ H Q := by
  refine e_told N x tabs_up fun H1 Qn En x1 hQ hE => hb H1 Qn En x1 (fun v H' _ y => hQ v H' (hq v H' y)) fun nm H' e y dd hd => ?_
  have hm : nm ∈ kindNames ∧ nm ≠ "BadText" := by
    rcases hn nm e with rfl | rfl <;> exact ⟨by decide +kernel, by decide +kernel⟩
  refine hE nm hm.1 hm.2 dd _ _ upd_same fun p H'' up ep => hq _ _ ?_
  have y2 : SL (tabsOk R.T :: l') H'' := (y.upd_new hd (o := .xd [("kind", .str nm)])).mono (fun a o q => up a o q)
  have t : TD H'' (.ref p) rd := by
    rw [hr nm e]
    refine TD.tup (ds := [.str nm, .int 0]) ep rfl fun i v d a b => ?_
    rcases i with _ | _ | i
    · cases a; cases b; exact .str _
    · cases a; cases b; exact .int _
    · cases a
  exact y2.dupF (A := TupA (.ref p) rd) t.fix

end Zw

set_option Elab.async false
set_option linter.all false
set_option maxRecDepth 100000
set_option maxHeartbeats 4000000
namespace Zw
open PySem PySem.Spec PyProof.Rows L2
local macro_rules | `(tactic| walk_at "mem") => `(tactic| (first | exact List.Mem.head _ | (apply List.Mem.tail; walk_at "mem")))
local macro_rules | `(tactic| walk_at "rp") => `(tactic| (first | exact Rp.hd | (apply Rp.tl; walk_at "rp")))
local macro_rules | `(tactic| walk_at "pk") => `(tactic| (first | exact Pk.hd | (apply Pk.tl; walk_at "pk")))
local macro_rules | `(tactic| walk_at "go1") => `(tactic| with_reducible (first
  | refine q_set ?_ | refine q_exp ?_ | refine q_doc ?_ | refine q_pass ?_ | refine q_ret ?_ | refine q_retN ?_ | refine q_brk ?_ | refine q_cont ?_ | refine q_if ?_ | refine q_par ?_ | refine q_setFld ?_ | refine q_setSub ?_ | refine q_for ?_
  | refine e_int ?_ | refine e_str ?_ | refine e_bl ?_ | refine e_non ?_ | refine e_bin ?_ | refine e_neg ?_ | refine e_nt ?_ | refine e_cmp ?_ | refine e_chain ?_ | refine e_and ?_ | refine e_or ?_ | refine e_ife ?_ | refine e_fld ?_ | refine e_sub ?_ | refine e_tup ?_ | refine e_lst ?_ | refine e_bi ?_ | refine e_meth ?_
  | refine es_nil ?_ | refine es_cons ?_ | refine t_yes ?_ | refine t_nt ?_ | refine t_and ?_ | refine t_or ?_ | refine t_cmp ?_ | refine t_val ?_ | refine i_seq ?_ | refine i_rng ?_
  | refine x_bl ?_ | refine x_in ?_ | refine tr_bl ?_ | refine tr_int ?_ | refine tr_non ?_
  | refine b_add ?_ | refine b_sub ?_ | refine c_lt ?_ | refine c_le ?_ | refine c_gt ?_ | refine c_ge ?_ | refine c_is ?_ | refine c_isnt ?_ | refine i_intB ?_ | refine c_eqI ?_ | refine c_neI ?_ | refine c_eqB ?_ | refine c_neB ?_ | refine c_eqS ?_ | refine q_nil ?_ | refine x_itt ?_ | refine x_iff ?_))
local macro_rules | `(tactic| walk_at "go2") => `(tactic| (first
  | ((with_reducible refine' e_var ?hg ?hh); (case hg => rfl))
  | ((with_reducible refine' s_0 ?hx ?hm ?hg ?hh); (case hx => assumption); (case hm => walk_at "mem"); (case hg => rfl))
  | ((with_reducible refine' s_1 ?hx ?hm ?hg ?hh); (case hx => assumption); (case hm => walk_at "mem"); (case hg => rfl))
  | ((with_reducible refine' s_2 ?hx ?hm ?hg ?hh); (case hx => assumption); (case hm => walk_at "mem"); (case hg => rfl))
  | ((with_reducible refine' p_0 ?hx ?hr ?hb ?hh); (case hx => assumption); (case hr => walk_at "rp"); (case hb => first | (simp; done) | decide); intros)
  | ((with_reducible refine' p_1 ?hx ?hr ?hb ?hh); (case hx => assumption); (case hr => walk_at "rp"); (case hb => first | (simp; done) | decide); intros)
  | ((with_reducible refine' n_lst ?hx ?hb ?hh); (case hx => assumption); (case hb => first | decide | (simp only [List.length_cons, List.length_nil]; decide)); intros)
  | ((with_reducible refine' n_tup ?hx ?hb ?hh); (case hx => assumption); (case hb => first | decide | (simp only [List.length_cons, List.length_nil]; decide)); intros)))
local macro_rules | `(tactic| walk_at "go") => `(tactic| repeat (first | walk_at "go1" | walk_at "go2"))
local macro_rules | `(tactic| walk_at "go2") => `(tactic| (first
  | ((with_reducible refine' e_ty ?hg ?hh); (case hg => rfl))
  | ((with_reducible refine' isi_dp ok_bl ?hx ?hh); (case hx => assumption))
  | ((with_reducible refine' isi_dp ok_int ?hx ?hh); (case hx => assumption))
  | ((with_reducible refine' isi_dp ok_str ?hx ?hh); (case hx => assumption))
  | ((with_reducible refine' isi_dp ok_tup ?hx ?hh); (case hx => assumption))
  | ((with_reducible refine' isi_dp ok_lst ?hx ?hh); (case hx => assumption))
  | ((with_reducible refine' x_dt ?hc ?hh); (case hc => rfl))
  | ((with_reducible refine' x_df ?hc ?hh); (case hc => rfl))))
def DkOk2 (k : Dk) : Prop := DkOk k ∧ Small k.laid ∧ k.laid.depth ≤ 2
def BstOk2 (s : Bst) : Prop := 1 ≤ s.disks.length ∧ s.disks.length ≤ 6 ∧ ∀ (i : Nat) k, s.disks[i]? = some (some k) → DkOk2 k
theorem fresh_ok {n : Nat} (h1 : 1 ≤ n) (h2 : n ≤ 12) : DkOk2 (freshDk n) := by
  refine ⟨⟨by simpa [freshDk] using h1, by simpa [freshDk] using h2, fun row hr => ?_⟩, ⟨by simp [freshDk, costD], rfl⟩, by simp [freshDk, PyData.depth]⟩
  have := List.eq_of_mem_replicate (show row ∈ List.replicate n [0, 0, 0, 0] from hr)
  subst this
  rfl
theorem ok_set {s : Bst} {d : Nat} {o : Option Dk} {lf : Option Nat} {st : Bool} {dn : Nat} (h : BstOk2 s) (ho : ∀ k, o = some k → DkOk2 k) : BstOk2 ⟨s.disks.set d o, lf, st, dn⟩ := by
  refine ⟨by simpa using h.1, by simpa using h.2.1, fun i k e => ?_⟩
  simp only at e
  by_cases hi : d = i
  · subst hi
    by_cases hl : d < s.disks.length
    · rw [List.getElem?_set_self hl] at e
      cases e
      exact ho k rfl
    · rw [List.getElem?_eq_none (by simp; omega)] at e
      cases e
  · rw [List.getElem?_set_ne hi] at e
    exact h.2.2 i k e
/-- the names that the law's own defs need -/
structure LN (R : Rx) (k j : Nat) (C Cd : Addr) (cls : Str → Addr) : Prop where
  xc : R.xc = none
  B : BenchC R.K C
  tak : ∃ f, Has R.toRt k "_law_take" f spTake
  ali : ∃ f, Has R.toRt k "_law_alike" f (spAlike R.K 3)
  tol : ∃ g, HasZ R.toRt k "_law_told" g (spTold R.toRt (j + 1) cls)
  put : ∃ g, HasM R.toRt j C "put" g (spPut C Cd cls)
  get : ∃ g, HasM R.toRt j C "get" g (spGet C Cd cls)
  lay : ∃ g, HasM R.toRt j C "lay" g (spLay C Cd cls)
  sheet : ∃ g, HasM R.toRt j C "sheet" g (spSheet C Cd cls)
  lose : ∃ g, HasM R.toRt j C "lose" g (spLose C Cd cls)
  bring : ∃ g, HasM R.toRt j C "bring" g (spBring C Cd cls)
  arm : ∃ g, HasM R.toRt j C "arm" g (spArm C Cd)
  again : ∃ g, HasM R.toRt j C "again" g (spAgain C Cd)
/-- alike(v, w), where both tell the same -/
theorem x_same {R : Rx} {k n : Nat} {f : Addr} {H : Hp} {Q : VK} {E : XK} {v w : V} {d : PyData} (N : Has R.toRt k "_law_alike" f (spAlike R.K n)) (hv : TD H v d) (hw : TD H w d) (hz : szB d = true) (hd : d.depth ≤ n) (h : Q (.bl true) H) : ∃ sp, CallOk R.toRt k f sp ∧ sp [v, w] H Q E :=
  x_sp N.ok ⟨v, w, d, d, rfl, hv.dp, hw.dp, hz, hd, fun b hb => by
    obtain rfl : b = true := hb.mpr rfl
    exact h⟩
theorem ref_sz {r : Option Str} : szB (refD r) = true := by
  cases r with
  | none => rfl
  | some nm =>
    have : (2 : Nat) ≤ sizeLine := by rw [sizeLine_eq]; decide
    simp [refD, szB, szAll, this]
theorem ref_dep {r : Option Str} : (refD r).depth ≤ 3 := by cases r <;> simp [refD, PyData.depth, PyData.depthAll]
theorem SL.td {v : V} {d : PyData} {l : List HP} {H : Hp} (m : TupA v d ∈ l) (y : SL l H) : TD H v d := SL.up (A := TupA v d) (fun _ _ => TupA.up) m y
/-- what is told of a state whose disk may be gone: which refusal it is -/
def lateB (s : Bst) : Str := if s.stop = true then "Stopped" else "NoDisk"
def N_comes : List Str := ["_law_box", "_law_bench", "_law_own", "_law_disk_here", "_law_way", "_law_there", "_law_late", "_law_due", "_law_size"]
def b_comes : Ss := (.cons (.set 5 (.sub (.sub (.var 2) (.str "disks")) (.var 3)))
  (.cons (.set 6 (.ife (.val (.sub (.var 2) (.str "stands"))) (.tup (.cons (.str "Stopped") (.cons (.int 0) .nil))) (.tup (.cons (.str "NoDisk") (.cons (.int 0) .nil)))))
  (.cons (.ifs (.cmp (.cmp .Eq (.var 4) (.int 8)))
  (.cons (.set 7 (.ife (.or2 (.cmp (.cmp .Is (.var 5) .non)) (.val (.sub (.var 2) (.str "stands")))) (.var 6) .non))
  (.cons (.setSub (.sub (.var 2) (.str "disks")) (.var 3) (.ife (.val (.sub (.var 2) (.str "stands"))) (.var 5) .non))
  (.cons (.ret (.call "_law_alike" (.cons (.callZ "_law_told" (.cons (.lam (.meth (.var 1) "lose" [] (.cons (.var 3) .nil))) .nil)) (.cons (.var 7) .nil))))
  .nil)))
  .nil)
  (.cons (.ifs (.cmp (.cmp .Eq (.var 4) (.int 9)))
  (.cons (.set 8 (.bin .Add (.int 1) (.call "_law_take" (.cons (.var 0) (.cons (.int 12) .nil)))))
  (.cons (.set 7 (.ife (.or2 (.cmp (.cmp .IsNot (.var 5) .non)) (.val (.sub (.var 2) (.str "stands")))) (.var 6) .non))
  (.cons (.ifs (.cmp (.cmp .Is (.var 7) .non))
  (.cons (.setSub (.sub (.var 2) (.str "disks")) (.var 3) (.call "_law_disk" (.cons (.var 8) .nil)))
  .nil)
  .nil)
  (.cons (.ret (.call "_law_alike" (.cons (.callZ "_law_told" (.cons (.lam (.meth (.var 1) "bring" [] (.cons (.var 3) (.cons (.var 8) .nil)))) .nil)) (.cons (.var 7) .nil))))
  .nil))))
  .nil)
  (.cons (.ifs (.cmp (.cmp .Eq (.var 4) (.int 10)))
  (.cons (.setSub (.var 2) (.str "left") (.call "_law_take" (.cons (.var 0) (.cons (.sub (.lst (.cons (.int 2) (.cons (.int 5) (.cons (.int 30) .nil)))) (.call "_law_take" (.cons (.var 0) (.cons (.int 3) .nil)))) .nil))))
  (.cons (.ret (.call "_law_alike" (.cons (.callZ "_law_told" (.cons (.lam (.meth (.var 1) "arm" [] (.cons (.sub (.var 2) (.str "left")) .nil))) .nil)) (.cons .non .nil))))
  .nil))
  .nil)
  (.cons (.setTup (.sb (.var 2) (.str "left") (.sb (.var 2) (.str "stands") .nil)) (.tup (.cons .non (.cons (.bl false) .nil))))
  (.cons (.ret (.call "_law_alike" (.cons (.callZ "_law_told" (.cons (.lam (.meth (.var 1) "again" [] .nil)) .nil)) (.cons .non .nil))))
  .nil)))))))
def spComes (T : List (Addr × Str)) (C Cd : Addr) : Sp := fun vs H Q _ => ∃ (b x o : Addr) (s : Bst) (d w : Nat) (l : List HP), vs = [.ref b, .ref x, .ref o, .int (d : Nat), .int (w : Nat)] ∧ 8 ≤ w ∧ w < 12 ∧ d < s.disks.length ∧ BstOk2 s ∧
  SL (tabsOk T :: BoxA b :: BenchA C Cd x s :: OwnA o s :: l) H ∧ ∀ H' s', BstOk2 s' → SL (tabsOk T :: BoxA b :: BenchA C Cd x s' :: OwnA o s' :: l) H' → Q (.bl true) H'
section
variable {R : Rx} {k j : Nat} {C Cd : Addr} {cls : Str → Addr} {W : WX} {σ : L2.St} {H : Hp} {Q : VK} {l : List HP}
/-- bench.m(…) in a lambda: the bench is found -/
theorem e_own {x g : Addr} {s : Bst} {m : Str} {ms : List Mt} {es : Es} {iv : Nat} (xc : R.xc = none) (B : BenchC R.K C) (me : Meth R.K C m g) (hm : m ∉ (["_places", "_done", "_left", "_stopped"] : List Str)) (hv : σ[iv]? = some (some (.ref x))) (y : SL l H) (mem : BenchA C Cd x s ∈ l)
    (h : wEs R k es W σ H fun vs H2 => ∃ sp, CallOk R.toRt k g sp ∧ sp (.ref x :: vs) H2 Q (WE W σ)) : wE R k (.meth (.var iv) m ms es) W σ H Q := by
  obtain ⟨h1, s1, dx, p, vs, h2, g2, s2, _, _, e, _⟩ : ∃ h, Sub h H ∧ BenchA C Cd x s h := by
    clear h
    induction l generalizing H with
    | nil => cases mem
    | cons A l ih =>
      obtain ⟨h, g, s1, s2, d, a, y⟩ := y
      cases mem with
      | head => exact ⟨h, s1, a⟩
      | tail _ mem =>
        obtain ⟨h', s3, a'⟩ := ih y mem
        exact ⟨h', s3.trans s2, a'⟩
  refine e_meth (e_var hv ?_)
  exact x_own xc (s1 _ _ (s2 _ _ e)) B.cls me (bench_no (C := C) (dx := dx) hm) h
theorem e_late {o p : Addr} {s : Bst} (hv : σ[2]? = some (some (.ref o))) (y : SL l H) (m : pt o (ownO p s.left s.stop s.done) ∈ l) (h : ∀ q H', SL (TupA (.ref q) (refD (some (lateB s))) :: l) H' → Q (.ref q) H') :
    wE R k (.ife (.val (.sub (.var 2) (.str "stands"))) (.tup (.cons (.str "Stopped") (.cons (.int 0) .nil))) (.tup (.cons (.str "NoDisk") (.cons (.int 0) .nil)))) W σ H Q := by
  have sz : (500 : Nat) < sizeLine := by rw [sizeLine_eq]; decide
  refine e_ife (t_val (e_sub (e_var hv (e_str (s_z y m own_stands ?_)))))
  unfold lateB at h
  walk_at "go"
  cases hs : s.stop with
  | true =>
    rw [hs, if_pos rfl] at h
    walk_at "go"
    rename_i q H2 z
    exact h q H2 (td_ref z)
  | false =>
    rw [hs, if_neg Bool.false_ne_true] at h
    walk_at "go"
    rename_i q H2 z
    exact h q H2 (td_ref z)
def loseB (s : Bst) (d : Nat) : Bst := match goneB s d with | none => { s with disks := s.disks.set d none } | some _ => s
def bringB (s : Bst) (d n : Nat) : Bst := match comeB s d with | none => { s with disks := s.disks.set d (some (freshDk n)) } | some _ => s
theorem told_lose {x : Addr} {s : Bst} {d : Nat} (N : LN R k j C Cd cls) (h1 : σ[1]? = some (some (.ref x))) (h3 : σ[3]? = some (some (.int (d : Nat)))) (hd : d < s.disks.length) (y : SL (tabsOk R.T :: BenchA C Cd x s :: l) H)
    (h : ∀ v H', SL (TupA v (refD (goneB s d)) :: tabsOk R.T :: BenchA C Cd x (loseB s d) :: l) H' → Q v H') : wE R k (.callZ "_law_told" (.cons (.lam (.meth (.var 1) "lose" [] (.cons (.var 3) .nil))) .nil)) W σ H Q := by
  obtain ⟨gt, Nt⟩ := N.tol
  obtain ⟨gm, Nm⟩ := N.lose
  refine e_toldT (r := goneB s d) Nt y gone_nm (fun nm e => by rw [e]) (fun H1 Qn En y1 hQ hE => ?_) h
  refine e_own N.xc N.B Nm.me (by decide +kernel) h1 y1 (by walk_at "mem") (es_cons (e_var h3 (es_nil ?_)))
  refine x_sp Nm.ok ⟨x, s, tabsOk R.T :: l, d, rfl, hd, SL.p1 (A := BenchA C Cd x s) y1 (by walk_at "pk"), fun nm e => ?_, fun e H' z => ?_⟩
  · refine hE nm H1 e ?_
    have : loseB s d = s := by unfold loseB; rw [e]
    rw [this]
    exact y1
  · refine hQ _ _ e ?_
    have : loseB s d = { s with disks := s.disks.set d none } := by unfold loseB; rw [e]
    rw [this, e]
    exact td_non z.swap
theorem told_bring {x : Addr} {s : Bst} {d n : Nat} (N : LN R k j C Cd cls) (h1 : σ[1]? = some (some (.ref x))) (h3 : σ[3]? = some (some (.int (d : Nat)))) (h8 : σ[8]? = some (some (.int (n : Nat)))) (hd : d < s.disks.length) (hn1 : 1 ≤ n) (hn2 : n ≤ 12) (y : SL (tabsOk R.T :: BenchA C Cd x s :: l) H)
    (h : ∀ v H', SL (TupA v (refD (comeB s d)) :: tabsOk R.T :: BenchA C Cd x (bringB s d n) :: l) H' → Q v H') : wE R k (.callZ "_law_told" (.cons (.lam (.meth (.var 1) "bring" [] (.cons (.var 3) (.cons (.var 8) .nil)))) .nil)) W σ H Q := by
  obtain ⟨gt, Nt⟩ := N.tol
  obtain ⟨gm, Nm⟩ := N.bring
  refine e_toldT (r := comeB s d) Nt y come_nm (fun nm e => by rw [e]) (fun H1 Qn En y1 hQ hE => ?_) h
  refine e_own N.xc N.B Nm.me (by decide +kernel) h1 y1 (by walk_at "mem") (es_cons (e_var h3 (es_cons (e_var h8 (es_nil ?_)))))
  refine x_sp Nm.ok ⟨x, s, tabsOk R.T :: l, d, n, rfl, hd, hn1, hn2, SL.p1 (A := BenchA C Cd x s) y1 (by walk_at "pk"), fun nm e => ?_, fun e H' z => ?_⟩
  · refine hE nm H1 e ?_
    have : bringB s d n = s := by unfold bringB; rw [e]
    rw [this]
    exact y1
  · refine hQ _ _ e ?_
    have : bringB s d n = { s with disks := s.disks.set d (some (freshDk n)) } := by unfold bringB; rw [e]
    rw [this, e]
    exact td_non z.swap
end

end Zw

set_option Elab.async false
set_option linter.all false
set_option maxRecDepth 100000
set_option maxHeartbeats 4000000
namespace Zw
open PySem PySem.Spec PyProof.Rows L2
local macro_rules | `(tactic| walk_at "mem") => `(tactic| (first | exact List.Mem.head _ | (apply List.Mem.tail; walk_at "mem")))
local macro_rules | `(tactic| walk_at "rp") => `(tactic| (first | exact Rp.hd | (apply Rp.tl; walk_at "rp")))
local macro_rules | `(tactic| walk_at "pk") => `(tactic| (first | exact Pk.hd | (apply Pk.tl; walk_at "pk")))
local macro_rules | `(tactic| walk_at "go1") => `(tactic| with_reducible (first
  | refine q_set ?_ | refine q_exp ?_ | refine q_doc ?_ | refine q_pass ?_ | refine q_ret ?_ | refine q_retN ?_ | refine q_brk ?_ | refine q_cont ?_ | refine q_if ?_ | refine q_par ?_ | refine q_setFld ?_ | refine q_setSub ?_ | refine q_for ?_
  | refine e_int ?_ | refine e_str ?_ | refine e_bl ?_ | refine e_non ?_ | refine e_bin ?_ | refine e_neg ?_ | refine e_nt ?_ | refine e_cmp ?_ | refine e_chain ?_ | refine e_and ?_ | refine e_or ?_ | refine e_ife ?_ | refine e_fld ?_ | refine e_sub ?_ | refine e_tup ?_ | refine e_lst ?_ | refine e_bi ?_ | refine e_meth ?_
  | refine es_nil ?_ | refine es_cons ?_ | refine t_yes ?_ | refine t_nt ?_ | refine t_and ?_ | refine t_or ?_ | refine t_cmp ?_ | refine t_val ?_ | refine i_seq ?_ | refine i_rng ?_
  | refine x_bl ?_ | refine x_in ?_ | refine tr_bl ?_ | refine tr_int ?_ | refine tr_non ?_
  | refine b_add ?_ | refine b_sub ?_ | refine c_lt ?_ | refine c_le ?_ | refine c_gt ?_ | refine c_ge ?_ | refine c_is ?_ | refine c_isnt ?_ | refine i_intB ?_ | refine c_eqI ?_ | refine c_neI ?_ | refine c_eqB ?_ | refine c_neB ?_ | refine c_eqS ?_ | refine q_nil ?_ | refine x_itt ?_ | refine x_iff ?_))
local macro_rules | `(tactic| walk_at "go2") => `(tactic| (first
  | ((with_reducible refine' e_var ?hg ?hh); (case hg => rfl))
  | ((with_reducible refine' s_0 ?hx ?hm ?hg ?hh); (case hx => assumption); (case hm => walk_at "mem"); (case hg => rfl))
  | ((with_reducible refine' s_1 ?hx ?hm ?hg ?hh); (case hx => assumption); (case hm => walk_at "mem"); (case hg => rfl))
  | ((with_reducible refine' s_2 ?hx ?hm ?hg ?hh); (case hx => assumption); (case hm => walk_at "mem"); (case hg => rfl))
  | ((with_reducible refine' p_0 ?hx ?hr ?hb ?hh); (case hx => assumption); (case hr => walk_at "rp"); (case hb => first | (simp; done) | decide); intros)
  | ((with_reducible refine' p_1 ?hx ?hr ?hb ?hh); (case hx => assumption); (case hr => walk_at "rp"); (case hb => first | (simp; done) | decide); intros)
  | ((with_reducible refine' n_lst ?hx ?hb ?hh); (case hx => assumption); (case hb => first | decide | (simp only [List.length_cons, List.length_nil]; decide)); intros)
  | ((with_reducible refine' n_tup ?hx ?hb ?hh); (case hx => assumption); (case hb => first | decide | (simp only [List.length_cons, List.length_nil]; decide)); intros)))
local macro_rules | `(tactic| walk_at "go") => `(tactic| repeat (first | walk_at "go1" | walk_at "go2"))
local macro_rules | `(tactic| walk_at "go2") => `(tactic| (first
  | ((with_reducible refine' e_ty ?hg ?hh); (case hg => rfl))
  | ((with_reducible refine' isi_dp ok_bl ?hx ?hh); (case hx => assumption))
  | ((with_reducible refine' isi_dp ok_int ?hx ?hh); (case hx => assumption))
  | ((with_reducible refine' isi_dp ok_str ?hx ?hh); (case hx => assumption))
  | ((with_reducible refine' isi_dp ok_tup ?hx ?hh); (case hx => assumption))
  | ((with_reducible refine' isi_dp ok_lst ?hx ?hh); (case hx => assumption))
  | ((with_reducible refine' x_dt ?hc ?hh); (case hc => rfl))
  | ((with_reducible refine' x_df ?hc ?hh); (case hc => rfl))))
section
variable {R : Rx} {k j : Nat} {C Cd : Addr} {cls : Str → Addr} {H : Hp} {Q : VK} {X : XK}
theorem t_sb {R : Rx} {k : Nat} {W : WX} {a i : E} {r : Tts} {v : V} {vs : List V} {σ : L2.St} {H : Hp} {Q : L2.St → Hp → Prop} (h : wE R k a W σ H fun x H2 => wE R k i W σ H2 fun y H3 => rSetL x y v H3 (fun H4 => wTts R k r W vs σ H4 Q) ∨ ∃ p H4, x = .ref p ∧ DPut H3 p y v H4 ∧ wTts R k r W vs σ H4 Q) : wTts R k (.sb a i r) W (v :: vs) σ H Q := h
theorem lose_ok {s : Bst} {d : Nat} (h : BstOk2 s) : BstOk2 (loseB s d) := by
  unfold loseB
  cases goneB s d with
  | some _ => exact h
  | none => exact ok_set h fun k e => by cases e
theorem bring_ok {s : Bst} {d n : Nat} (h : BstOk2 s) (h1 : 1 ≤ n) (h2 : n ≤ 12) : BstOk2 (bringB s d n) := by
  unfold bringB
  cases comeB s d with
  | some _ => exact h
  | none =>
    exact ok_set h fun k e => by
      cases e
      exact fresh_ok h1 h2
theorem w_comes {vs : List V} (N : LN R k j C Cd cls) (Nd : ∃ f, Has R.toRt k "_law_disk" f spODisk) (h : spComes R.T C Cd vs H Q X) :
    wSs R k b_comes (fun cls d _ H' => X cls d H') { nx := fun _ H' => Q .non H', rt := Q } (L2.start N_comes vs) H := by
  obtain ⟨b, x, o, s, d, w, l, rfl, hw1, hw2, hd, hok, y0, hq⟩ := h
  have sz : (500 : Nat) < sizeLine := by rw [sizeLine_eq]; decide
  obtain ⟨fa, Na⟩ := N.ali
  obtain ⟨ft, Nt⟩ := N.tak
  obtain ⟨fd, Nd⟩ := Nd
  obtain ⟨p, vs, y⟩ := OwnA.out (y0.p1 (A := OwnA o s) (by walk_at "pk"))
  have e := List.getElem?_eq_getElem hd
  obtain ⟨v, hv1, hv2, hv3⟩ := odisk_at (y.p1 (A := All2 ODiskA vs s.disks) (by walk_at "pk")) e
  have hvl := (List.getElem?_eq_some_iff.mp hv1).1
  show wSs R k b_comes _ _ [some (.ref b), some (.ref x), some (.ref o), some (.int (d : Nat)), some (.int (w : Nat)), none, none, none, none] H
  unfold b_comes
  walk_at "go"
  refine s_z y (.head _) own_disks ?_
  walk_at "go"
  refine s_at y (by walk_at "mem") hv1 ?_
  refine q_set (e_late (p := p) (s := s) rfl y (.head _) fun q H1 y1 => ?_)
  show wSs R k _ _ _ [some (.ref b), some (.ref x), some (.ref o), some (.int (d : Nat)), some (.int (w : Nat)), some v, some (.ref q), none, none] H1
  clear y y0
  rcases (by omega : w = 8 ∨ w = 9 ∨ w = 10 ∨ w = 11) with rfl | rfl | rfl | rfl
  · have fin : ∀ (D : Ends) (v7 : V) (vs' : List V) (H3 : Hp), D.rt = Q → SL (pt o (ownO p s.left s.stop s.done) :: pt p (.lst vs') :: All2 ODiskA vs' (loseB s d).disks :: TupA v7 (refD (goneB s d)) :: tabsOk R.T :: BoxA b :: BenchA C Cd x s :: l) H3 →
        wSs R k (.cons (.ret (.call "_law_alike" (.cons (.callZ "_law_told" (.cons (.lam (.meth (.var 1) "lose" [] (.cons (.var 3) .nil))) .nil)) (.cons (.var 7) .nil)))) .nil) (fun cls d _ H' => X cls d H') D [some (.ref b), some (.ref x), some (.ref o), some (.int (d : Nat)), some (.int (8 : Nat)), some v, some (.ref q), some v7, none] H3 := fun D v7 vs' H3 hD z => by
      refine q_ret ?_
      rw [hD]
      refine e_call Na.mg Na.kp (es_cons ?_)
      have hlo : (loseB s d).left = s.left ∧ (loseB s d).stop = s.stop ∧ (loseB s d).done = s.done := by
        unfold loseB
        cases goneB s d <;> exact ⟨rfl, rfl, rfl⟩
      have z2 := OwnA.mk (o := o) (s := loseB s d) (p := p) (vs := vs') (by rw [hlo.1, hlo.2.1, hlo.2.2]; exact z)
      refine told_lose (x := x) (s := s) (d := d) N rfl rfl hd (SL.p2 (A := tabsOk R.T) (B := BenchA C Cd x s) z2 (by walk_at "pk") (by walk_at "pk")) fun vt H4 z4 => ?_
      walk_at "go"
      refine x_same Na (d := refD (goneB s d)) (SL.td (.head _) z4) (SL.td (.tail _ (.tail _ (.tail _ (.tail _ (.head _))))) z4) ref_sz ref_dep ?_
      refine hq H4 (loseB s d) (lose_ok hok) ?_
      exact SL.p4 (A := tabsOk R.T) (B := BoxA b) (C := BenchA C Cd x (loseB s d)) (D := OwnA o (loseB s d)) (z4.tail.drop (A := TupA v7 (refD (goneB s d))) (by walk_at "pk")) (by walk_at "pk") (by walk_at "pk") (by walk_at "pk") (by walk_at "pk")
    walk_at "go"
    cases ho : s.disks[d] with
    | none =>
      obtain rfl := hv2 ho
      have hg : goneB s d = some (lateB s) := by
        unfold goneB lateB
        cases s.stop with
        | true => rfl
        | false => simp [e, ho]
      have hl : loseB s d = s := by unfold loseB; rw [hg]
      walk_at "go"
      refine s_z y1 (by walk_at "mem") own_stands ?_
      walk_at "go"
      refine x_ite (fun hs => ?_) fun hs => ?_ <;>
      · walk_at "go"
        refine s_z y1 (by walk_at "mem") own_disks ?_
        walk_at "go"
        refine p_lst y1 (xs := vs) (l' := _) (by walk_at "rp") hvl fun H3 z => ?_
        rw [set_same hv1] at z
        refine fin _ _ vs H3 rfl ?_
        rw [hl, hg]
        exact SL.p4 (A := pt o (ownO p s.left s.stop s.done)) (B := pt p (.lst vs)) (C := All2 ODiskA vs s.disks) (D := TupA (.ref q) (refD (some (lateB s)))) z (by walk_at "pk") (by walk_at "pk") (by walk_at "pk") (by walk_at "pk")
    | some kd =>
      obtain ⟨a, rfl⟩ := hv3 kd ho
      refine x_df (by simp) ?_
      walk_at "go"
      refine s_z y1 (by walk_at "mem") own_stands ?_
      walk_at "go"
      refine x_ite (fun hs => ?_) fun hs => ?_
      · have hg : goneB s d = some (lateB s) := by
          unfold goneB lateB
          rw [hs]
          rfl
        have hl : loseB s d = s := by unfold loseB; rw [hg]
        walk_at "go"
        refine s_z y1 (by walk_at "mem") own_stands ?_
        walk_at "go"
        refine x_dt hs ?_
        walk_at "go"
        refine s_z y1 (by walk_at "mem") own_disks ?_
        walk_at "go"
        refine p_lst y1 (xs := vs) (l' := _) (by walk_at "rp") hvl fun H3 z => ?_
        rw [set_same hv1] at z
        refine fin _ _ vs H3 rfl ?_
        rw [hl, hg]
        exact SL.p4 (A := pt o (ownO p s.left s.stop s.done)) (B := pt p (.lst vs)) (C := All2 ODiskA vs s.disks) (D := TupA (.ref q) (refD (some (lateB s)))) z (by walk_at "pk") (by walk_at "pk") (by walk_at "pk") (by walk_at "pk")
      · have hg : goneB s d = none := by
          unfold goneB
          rw [hs, if_neg Bool.false_ne_true, e, ho]
        have hl : loseB s d = { s with disks := s.disks.set d none } := by unfold loseB; rw [hg]
        walk_at "go"
        refine s_z y1 (by walk_at "mem") own_stands ?_
        walk_at "go"
        refine x_df hs ?_
        walk_at "go"
        refine s_z y1 (by walk_at "mem") own_disks ?_
        walk_at "go"
        refine p_lst y1 (xs := vs) (l' := _) (by walk_at "rp") hvl fun H3 z => ?_
        refine fin _ _ (vs.set d .non) H3 rfl ?_
        rw [hl, hg]
        have z2 := td_non (z.drop (A := TupA (.ref q) _) (by walk_at "pk"))
        have z3 := All2.put (A := ODiskA) (xs := vs) (ys := s.disks) (j := d) (a := .non) (b := none) hvl (SL.p2 (A := All2 ODiskA vs s.disks) (B := ODiskA .non none) (SL.add (P := V.non = .non) rfl z2) (by walk_at "pk") (by exact .hd))
        exact SL.p4 (A := pt o (ownO p s.left s.stop s.done)) (B := pt p (.lst (vs.set d .non))) (C := All2 ODiskA (vs.set d .non) (s.disks.set d none)) (D := TupA .non (refD none)) z3 (by walk_at "pk") (by walk_at "pk") (by walk_at "pk") (by walk_at "pk")
  · -- one comes
    walk_at "go"
    refine e_call Nt.mg Nt.kp ?_
    walk_at "go"
    refine x_sp Nt.ok ⟨b, 12, _, rfl, by decide, by decide, SL.p1 (A := BoxA b) y1 (by walk_at "pk"), fun H2 i i0 i1 y2 => ?_⟩
    obtain ⟨n, hn, hn1, hn2⟩ : ∃ n : Nat, 1 + i = (n : Int) ∧ 1 ≤ n ∧ n ≤ 12 := ⟨(1 + i).toNat, by omega, by omega, by omega⟩
    clear y1
    have fin : ∀ (D : Ends) (v7 : V) (vs' : List V) (H3 : Hp), D.rt = Q → SL (pt o (ownO p s.left s.stop s.done) :: pt p (.lst vs') :: All2 ODiskA vs' (bringB s d n).disks :: TupA v7 (refD (comeB s d)) :: tabsOk R.T :: BoxA b :: BenchA C Cd x s :: l) H3 →
        wSs R k (.cons (.ret (.call "_law_alike" (.cons (.callZ "_law_told" (.cons (.lam (.meth (.var 1) "bring" [] (.cons (.var 3) (.cons (.var 8) .nil)))) .nil)) (.cons (.var 7) .nil)))) .nil) (fun cls d _ H' => X cls d H') D [some (.ref b), some (.ref x), some (.ref o), some (.int (d : Nat)), some (.int (9 : Nat)), some v, some (.ref q), some v7, some (.int (n : Nat))] H3 := fun D v7 vs' H3 hD z => by
      refine q_ret ?_
      rw [hD]
      refine e_call Na.mg Na.kp (es_cons ?_)
      have hlo : (bringB s d n).left = s.left ∧ (bringB s d n).stop = s.stop ∧ (bringB s d n).done = s.done := by
        unfold bringB
        cases comeB s d <;> exact ⟨rfl, rfl, rfl⟩
      have z2 := OwnA.mk (o := o) (s := bringB s d n) (p := p) (vs := vs') (by rw [hlo.1, hlo.2.1, hlo.2.2]; exact z)
      refine told_bring (x := x) (s := s) (d := d) (n := n) N rfl rfl rfl hd hn1 hn2 (SL.p2 (A := tabsOk R.T) (B := BenchA C Cd x s) z2 (by walk_at "pk") (by walk_at "pk")) fun vt H4 z4 => ?_
      walk_at "go"
      refine x_same Na (d := refD (comeB s d)) (SL.td (.head _) z4) (SL.td (.tail _ (.tail _ (.tail _ (.tail _ (.head _))))) z4) ref_sz ref_dep ?_
      refine hq H4 (bringB s d n) (bring_ok hok hn1 hn2) ?_
      exact SL.p4 (A := tabsOk R.T) (B := BoxA b) (C := BenchA C Cd x (bringB s d n)) (D := OwnA o (bringB s d n)) (z4.tail.drop (A := TupA v7 (refD (comeB s d))) (by walk_at "pk")) (by walk_at "pk") (by walk_at "pk") (by walk_at "pk") (by walk_at "pk")
    have stay : comeB s d = some (lateB s) → ∀ D : Ends, D.rt = Q → wSs R k (.cons (.ret (.call "_law_alike" (.cons (.callZ "_law_told" (.cons (.lam (.meth (.var 1) "bring" [] (.cons (.var 3) (.cons (.var 8) .nil)))) .nil)) (.cons (.var 7) .nil)))) .nil) (fun cls d _ H' => X cls d H') D [some (.ref b), some (.ref x), some (.ref o), some (.int (d : Nat)), some (.int (9 : Nat)), some v, some (.ref q), some (.ref q), some (.int (n : Nat))] H2 := fun hg D hD => by
      have hl : bringB s d n = s := by unfold bringB; rw [hg]
      refine fin D _ vs H2 hD ?_
      rw [hl, hg]
      exact SL.p6 (A := pt o (ownO p s.left s.stop s.done)) (B := pt p (.lst vs)) (C := All2 ODiskA vs s.disks) (D := TupA (.ref q) (refD (some (lateB s)))) (E := tabsOk R.T) (F := BoxA b) y2 (by walk_at "pk") (by walk_at "pk") (by walk_at "pk") (by walk_at "pk") (by walk_at "pk") (by walk_at "pk")
    walk_at "go"
    rw [hn]
    cases ho : s.disks[d] with
    | some kd =>
      obtain ⟨a, rfl⟩ := hv3 kd ho
      have hg : comeB s d = some (lateB s) := by
        unfold comeB lateB
        cases s.stop with
        | true => rfl
        | false => simp [e, ho]
      refine x_dt (by simp) ?_
      walk_at "go"
      exact stay hg _ rfl
    | none =>
      obtain rfl := hv2 ho
      walk_at "go"
      refine s_z y2 (by walk_at "mem") own_stands ?_
      walk_at "go"
      refine x_ite (fun hs => ?_) fun hs => ?_
      · have hg : comeB s d = some (lateB s) := by
          unfold comeB lateB
          rw [hs]
          rfl
        walk_at "go"
        exact stay hg _ rfl
      · have hg : comeB s d = none := by
          unfold comeB
          rw [hs, if_neg Bool.false_ne_true, e, ho]
        have hl : bringB s d n = { s with disks := s.disks.set d (some (freshDk n)) } := by unfold bringB; rw [hg]
        walk_at "go"
        refine e_call Nd.mg Nd.kp ?_
        walk_at "go"
        refine x_sp Nd.ok ⟨n, _, rfl, hn2, y2, fun a H3 y3 => ?_⟩
        walk_at "go"
        refine s_z y3 (by walk_at "mem") own_disks ?_
        walk_at "go"
        refine p_lst y3 (xs := vs) (l' := _) (by walk_at "rp") hvl fun H4 z => ?_
        refine fin _ _ (vs.set d (.ref a)) H4 rfl ?_
        rw [hl, hg]
        have z2 := td_non (z.drop (A := TupA (.ref q) _) (by walk_at "pk"))
        have z3 := All2.put (A := ODiskA) (xs := vs) (ys := s.disks) (j := d) (a := .ref a) (b := some (freshDk n)) hvl (SL.p2 (A := All2 ODiskA vs s.disks) (B := ODiskA (.ref a) (some (freshDk n))) z2 (by walk_at "pk") (by walk_at "pk"))
        exact SL.p6 (A := pt o (ownO p s.left s.stop s.done)) (B := pt p (.lst (vs.set d (.ref a)))) (C := All2 ODiskA (vs.set d (.ref a)) (s.disks.set d (some (freshDk n)))) (D := TupA .non (refD none)) (E := tabsOk R.T) (F := BoxA b) z3 (by walk_at "pk") (by walk_at "pk") (by walk_at "pk") (by walk_at "pk") (by walk_at "pk") (by walk_at "pk")
  · -- an end is set
    walk_at "go"
    refine e_call Nt.mg Nt.kp ?_
    walk_at "go"
    rename_i q3 H2 y2
    refine e_call Nt.mg Nt.kp ?_
    walk_at "go"
    refine x_sp Nt.ok ⟨b, 3, _, rfl, by decide, by decide, SL.p1 (A := BoxA b) y2 (by walk_at "pk"), fun H3 i i0 i1 y3 => ?_⟩
    obtain ⟨n, m, rfl, hm, hm1, hm2⟩ : ∃ n m : Nat, i = (n : Int) ∧ ([V.int 2, V.int 5, V.int 30] : List V)[n]? = some (.int (m : Nat)) ∧ 1 ≤ m ∧ m ≤ 30 := by
      rcases (by omega : i = 0 ∨ i = 1 ∨ i = 2) with rfl | rfl | rfl
      · exact ⟨0, 2, rfl, rfl, by decide, by decide⟩
      · exact ⟨1, 5, rfl, rfl, by decide, by decide⟩
      · exact ⟨2, 30, rfl, rfl, by decide, by decide⟩
    refine s_at y3 (by walk_at "mem") hm ?_
    walk_at "go"
    refine x_sp Nt.ok ⟨b, (m : Nat), _, rfl, by omega, ?_, y3, fun H4 i i0 i1 y4 => ?_⟩
    · have h1 : m < 2 ^ 5 := by omega
      have h2 : (m : Int).natAbs = m := by omega
      rw [h2]
      have := Nat.log2_lt (n := m) (k := 5) (by omega) |>.mpr h1
      omega
    obtain ⟨c, rfl⟩ : ∃ c : Nat, i = (c : Int) := ⟨i.toNat, by omega⟩
    walk_at "go"
    refine p_dct (l := _ :: _ :: _ :: pt o (ownO p s.left s.stop s.done) :: _) y4 (.tl (.tl (.tl .hd))) (show (4 : Nat) < _ by omega) fun H5 y5 => ?_
    rw [own_putL] at y5
    have y6 := (y5.drop (A := pt q3 _) (by walk_at "pk")).drop (A := TupA (.ref q) _) (by walk_at "pk")
    have y7 := OwnA.mk (s := ({ s with left := some c } : Bst)) (SL.p3 (A := pt o (ownO p (some c) s.stop s.done)) (B := pt p (.lst vs)) (C := All2 ODiskA vs s.disks) y6 (by walk_at "pk") (by walk_at "pk") (by walk_at "pk"))
    clear y5 y4 y3 y2 y1 y6
    walk_at "go"
    refine e_call Na.mg Na.kp (es_cons ?_)
    obtain ⟨gt, Ntl⟩ := N.tol
    obtain ⟨gm, Nm⟩ := N.arm
    refine e_toldT (r := none) (rd := .none) (l' := BoxA b :: BenchA C Cd x { s with left := some c } :: OwnA o { s with left := some c } :: l) Ntl (SL.p1 (A := tabsOk R.T) y7 (by walk_at "pk")) (fun nm h => by cases h) (fun nm h => by cases h) (fun H1 Qn En z hQ hE => ?_) fun v H' z => ?_
    · refine e_own (s := s) N.xc N.B Nm.me (by decide +kernel) rfl z (by walk_at "mem") ?_
      obtain ⟨p', vs', z2⟩ := OwnA.out (SL.p1 (A := OwnA o ({ s with left := some c } : Bst)) z (by walk_at "pk"))
      walk_at "go"
      refine s_z z2 (by walk_at "mem") own_left ?_
      walk_at "go"
      refine x_sp Nm.ok ⟨x, s, _, c, rfl, by omega, SL.p1 (A := BenchA C Cd x s) z (by walk_at "pk"), fun H' z3 => ?_⟩
      exact hQ _ _ rfl (td_non (SL.p3 (A := tabsOk R.T) (B := BoxA b) (C := BenchA C Cd x ({ s with left := some c } : Bst)) z3 (by walk_at "pk") (by walk_at "pk") (by walk_at "pk")))
    · walk_at "go"
      refine x_same Na (d := .none) (SL.td (.head _) z) .non rfl (by simp [PyData.depth]) ?_
      exact hq H' { s with left := some c } hok z.tail
  · -- all goes on
    walk_at "go"
    refine q_tup ?_
    walk_at "go"
    rename_i q3 H2 y2
    refine ⟨q3, _, rfl, .inl (st_t (SL.get (.head _) y2)), rfl, ?_⟩
    refine t_sb (e_var rfl (e_str (p_dct (l := _ :: _ :: pt o (ownO p s.left s.stop s.done) :: _) y2 (.tl (.tl .hd)) (show (4 : Nat) < _ by omega) fun H3 y3 => ?_)))
    rw [own_putL] at y3
    refine t_sb (e_var rfl (e_str (p_dct (l := _ :: _ :: pt o (ownO p none s.stop s.done) :: _) y3 (.tl (.tl .hd)) (show (4 : Nat) < _ by omega) fun H4 y4 => ?_)))
    rw [own_putS] at y4
    have y6 := (y4.drop (A := pt q3 _) (by walk_at "pk")).drop (A := TupA (.ref q) _) (by walk_at "pk")
    have y7 := OwnA.mk (s := ({ s with stop := false, left := none } : Bst)) (SL.p3 (A := pt o (ownO p none false s.done)) (B := pt p (.lst vs)) (C := All2 ODiskA vs s.disks) y6 (by walk_at "pk") (by walk_at "pk") (by walk_at "pk"))
    clear y4 y3 y2 y1 y6
    show wSs R k _ _ _ _ _
    walk_at "go"
    refine e_call Na.mg Na.kp (es_cons ?_)
    obtain ⟨gt, Ntl⟩ := N.tol
    obtain ⟨gm, Nm⟩ := N.again
    refine e_toldT (r := none) (rd := .none) (l' := BoxA b :: BenchA C Cd x { s with stop := false, left := none } :: OwnA o { s with stop := false, left := none } :: l) Ntl (SL.p1 (A := tabsOk R.T) y7 (by walk_at "pk")) (fun nm h => by cases h) (fun nm h => by cases h) (fun H1 Qn En z hQ hE => ?_) fun v H' z => ?_
    · refine e_own (s := s) N.xc N.B Nm.me (by decide +kernel) rfl z (by walk_at "mem") ?_
      walk_at "go"
      refine x_sp Nm.ok ⟨x, s, _, rfl, SL.p1 (A := BenchA C Cd x s) z (by walk_at "pk"), fun H' z3 => ?_⟩
      exact hQ _ _ rfl (td_non (SL.p3 (A := tabsOk R.T) (B := BoxA b) (C := BenchA C Cd x ({ s with stop := false, left := none } : Bst)) z3 (by walk_at "pk") (by walk_at "pk") (by walk_at "pk")))
    · walk_at "go"
      refine x_same Na (d := .none) (SL.td (.head _) z) .non rfl (by simp [PyData.depth]) ?_
      exact hq H' { s with stop := false, left := none } hok z.tail
end

end Zw

set_option Elab.async false
set_option linter.all false
set_option maxRecDepth 100000
set_option maxHeartbeats 4000000
namespace Zw
open PySem PySem.Spec PyProof.Rows L2
local macro_rules | `(tactic| walk_at "mem") => `(tactic| (first | exact List.Mem.head _ | (apply List.Mem.tail; walk_at "mem")))
local macro_rules | `(tactic| walk_at "rp") => `(tactic| (first | exact Rp.hd | (apply Rp.tl; walk_at "rp")))
local macro_rules | `(tactic| walk_at "pk") => `(tactic| (first | exact Pk.hd | (apply Pk.tl; walk_at "pk")))
local macro_rules | `(tactic| walk_at "go1") => `(tactic| with_reducible (first
  | refine q_set ?_ | refine q_exp ?_ | refine q_doc ?_ | refine q_pass ?_ | refine q_ret ?_ | refine q_retN ?_ | refine q_brk ?_ | refine q_cont ?_ | refine q_if ?_ | refine q_par ?_ | refine q_setFld ?_ | refine q_setSub ?_ | refine q_for ?_
  | refine e_int ?_ | refine e_str ?_ | refine e_bl ?_ | refine e_non ?_ | refine e_bin ?_ | refine e_neg ?_ | refine e_nt ?_ | refine e_cmp ?_ | refine e_chain ?_ | refine e_and ?_ | refine e_or ?_ | refine e_ife ?_ | refine e_fld ?_ | refine e_sub ?_ | refine e_tup ?_ | refine e_lst ?_ | refine e_bi ?_ | refine e_meth ?_
  | refine es_nil ?_ | refine es_cons ?_ | refine t_yes ?_ | refine t_nt ?_ | refine t_and ?_ | refine t_or ?_ | refine t_cmp ?_ | refine t_val ?_ | refine i_seq ?_ | refine i_rng ?_
  | refine x_bl ?_ | refine x_in ?_ | refine tr_bl ?_ | refine tr_int ?_ | refine tr_non ?_
  | refine b_add ?_ | refine b_sub ?_ | refine c_lt ?_ | refine c_le ?_ | refine c_gt ?_ | refine c_ge ?_ | refine c_is ?_ | refine c_isnt ?_ | refine i_intB ?_ | refine c_eqI ?_ | refine c_neI ?_ | refine c_eqB ?_ | refine c_neB ?_ | refine c_eqS ?_ | refine q_nil ?_ | refine x_itt ?_ | refine x_iff ?_))
local macro_rules | `(tactic| walk_at "go2") => `(tactic| (first
  | ((with_reducible refine' e_var ?hg ?hh); (case hg => rfl))
  | ((with_reducible refine' s_0 ?hx ?hm ?hg ?hh); (case hx => assumption); (case hm => walk_at "mem"); (case hg => rfl))
  | ((with_reducible refine' s_1 ?hx ?hm ?hg ?hh); (case hx => assumption); (case hm => walk_at "mem"); (case hg => rfl))
  | ((with_reducible refine' s_2 ?hx ?hm ?hg ?hh); (case hx => assumption); (case hm => walk_at "mem"); (case hg => rfl))
  | ((with_reducible refine' p_0 ?hx ?hr ?hb ?hh); (case hx => assumption); (case hr => walk_at "rp"); (case hb => first | (simp; done) | decide); intros)
  | ((with_reducible refine' p_1 ?hx ?hr ?hb ?hh); (case hx => assumption); (case hr => walk_at "rp"); (case hb => first | (simp; done) | decide); intros)
  | ((with_reducible refine' n_lst ?hx ?hb ?hh); (case hx => assumption); (case hb => first | decide | (simp only [List.length_cons, List.length_nil]; decide)); intros)
  | ((with_reducible refine' n_tup ?hx ?hb ?hh); (case hx => assumption); (case hb => first | decide | (simp only [List.length_cons, List.length_nil]; decide)); intros)))
local macro_rules | `(tactic| walk_at "go") => `(tactic| repeat (first | walk_at "go1" | walk_at "go2"))
local macro_rules | `(tactic| walk_at "go2") => `(tactic| (first
  | ((with_reducible refine' e_ty ?hg ?hh); (case hg => rfl))
  | ((with_reducible refine' isi_dp ok_bl ?hx ?hh); (case hx => assumption))
  | ((with_reducible refine' isi_dp ok_int ?hx ?hh); (case hx => assumption))
  | ((with_reducible refine' isi_dp ok_str ?hx ?hh); (case hx => assumption))
  | ((with_reducible refine' isi_dp ok_tup ?hx ?hh); (case hx => assumption))
  | ((with_reducible refine' isi_dp ok_lst ?hx ?hh); (case hx => assumption))
  | ((with_reducible refine' x_dt ?hc ?hh); (case hc => rfl))
  | ((with_reducible refine' x_df ?hc ?hh); (case hc => rfl))))
section
variable {R : Rx} {k j : Nat} {C Cd : Addr} {cls : Str → Addr} {W : WX} {σ : L2.St} {H : Hp} {Q : VK} {l : List HP}
theorem deed_rel {s : Bst} {d : Nat} (f : Dk → Dk) : ((deedB s d id).2 = none ∧ ∃ k, s.stop = false ∧ s.disks[d]? = some (some k) ∧ deedB s d f = (⟨s.disks.set d (some (f k)), (deedB s d id).1.left, (deedB s d id).1.stop, (deedB s d id).1.done⟩, none) ∧ (deedB s d id).1.disks = s.disks) ∨
    ∃ nm, (deedB s d id).2 = some nm ∧ deedB s d f = ((deedB s d id).1, some nm) ∧ (deedB s d id).1.disks = s.disks := by
  cases hg : goneB s d with
  | some w =>
    refine .inr ⟨w, ?_, ?_, ?_⟩ <;> simp [deedB_gone hg]
  | none =>
    obtain ⟨hs, k, hk⟩ := goneB_some hg
    have hid : s.disks.set d (some (id k)) = s.disks := set_same hk
    cases hl : s.left with
    | none =>
      have h1 := fun f : Dk → Dk => deedB_yes (f := f) hs hk (left' := none) (.inl ⟨hl, rfl⟩)
      refine .inl ⟨by rw [h1], k, hs, hk, ?_, ?_⟩ <;> simp only [h1, hid]
    | some m =>
      cases m with
      | zero =>
        have h1 := fun f : Dk → Dk => deedB_end (f := f) hs hk hl
        exact .inr ⟨"Stopped", by rw [h1], by rw [h1, h1], by rw [h1]⟩
      | succ m =>
        have h1 := fun f : Dk → Dk => deedB_yes (f := f) hs hk (left' := some m) (.inr ⟨m, hl, rfl⟩)
        refine .inl ⟨by rw [h1], k, hs, hk, ?_, ?_⟩ <;> simp only [h1, hid]
theorem deed_two {s : Bst} {d : Nat} (f : Dk → Dk) : (deedB s d f).2 = (deedB s d id).2 := by
  rcases deed_rel (s := s) (d := d) f with ⟨h, k, _, _, h2, _⟩ | ⟨nm, h, h2, _⟩ <;> rw [h, h2]
theorem ans_told {Qn : VK} {En : XK} {r : Option Str} {l' : List HP} {H : Hp} (T : List (Addr × Str)) (y : SL (tabsOk T :: l') H) (hQ : ∀ v H', r = none → SL (TupA v (refD r) :: tabsOk T :: l') H' → Qn v H') (hE : ∀ nm H', r = some nm → SL (tabsOk T :: l') H' → Rsd En (cls nm) nm H') : Ans cls Qn En .non r H := by
  cases r with
  | none => exact hQ .non H rfl (td_non y)
  | some nm => exact hE nm H rfl y
theorem told_put {x : Addr} {s : Bst} {d p b w : Nat} (N : LN R k j C Cd cls) (h1 : σ[1]? = some (some (.ref x))) (h3 : σ[3]? = some (some (.int (d : Nat)))) (h6 : σ[6]? = some (some (.int (p : Nat)))) (h7 : σ[7]? = some (some (.int (b : Nat)))) (h8 : σ[8]? = some (some (.int (w : Nat)))) (hd : d < s.disks.length) (hb : b < 4) (hw : w ≤ 999)
    (hrow : ∀ k, s.disks[d]? = some (some k) → ∃ row, k.blocks[p]? = some row ∧ row.length = 4) (y : SL (tabsOk R.T :: BenchA C Cd x s :: l) H)
    (h : ∀ v H', SL (TupA v (refD (deedB s d (putD p b w)).2) :: tabsOk R.T :: BenchA C Cd x (deedB s d (putD p b w)).1 :: l) H' → Q v H') : wE R k (.callZ "_law_told" (.cons (.lam (.meth (.var 1) "put" [] (.cons (.var 3) (.cons (.var 6) (.cons (.var 7) (.cons (.var 8) .nil)))))) .nil)) W σ H Q := by
  obtain ⟨gt, Nt⟩ := N.tol
  obtain ⟨gm, Nm⟩ := N.put
  refine e_toldT (r := (deedB s d (putD p b w)).2) Nt y deed_nm (fun nm e => by rw [e]) (fun H1 Qn En y1 hQ hE => ?_) h
  refine e_own N.xc N.B Nm.me (by decide +kernel) h1 y1 (by walk_at "mem") (es_cons (e_var h3 (es_cons (e_var h6 (es_cons (e_var h7 (es_cons (e_var h8 (es_nil ?_)))))))))
  refine x_sp Nm.ok ⟨x, s, tabsOk R.T :: l, d, p, b, w, rfl, hd, hb, hw, hrow, SL.p1 (A := BenchA C Cd x s) y1 (by walk_at "pk"), fun H' z => ans_told R.T z.swap hQ hE⟩
theorem told_lay {x : Addr} {s : Bst} {d : Nat} {v : V} {sd : PyData} (N : LN R k j C Cd cls) (h1 : σ[1]? = some (some (.ref x))) (h3 : σ[3]? = some (some (.int (d : Nat)))) (h11 : σ[11]? = some (some v)) (hd : d < s.disks.length) (hs : Small sd) (m : TupA v sd ∈ l)
    (y : SL (tabsOk R.T :: BenchA C Cd x s :: l) H)
    (h : ∀ v H', SL (TupA v (refD (deedB s d (layD sd)).2) :: tabsOk R.T :: BenchA C Cd x (deedB s d (layD sd)).1 :: l) H' → Q v H') : wE R k (.callZ "_law_told" (.cons (.lam (.meth (.var 1) "lay" [] (.cons (.var 3) (.cons (.var 11) .nil)))) .nil)) W σ H Q := by
  obtain ⟨gt, Nt⟩ := N.tol
  obtain ⟨gm, Nm⟩ := N.lay
  refine e_toldT (r := (deedB s d (layD sd)).2) Nt y deed_nm (fun nm e => by rw [e]) (fun H1 Qn En y1 hQ hE => ?_) h
  refine e_own N.xc N.B Nm.me (by decide +kernel) h1 y1 (by walk_at "mem") (es_cons (e_var h3 (es_cons (e_var h11 (es_nil ?_)))))
  refine x_sp Nm.ok ⟨x, s, tabsOk R.T :: l, d, v, sd, rfl, hd, hs, ?_, fun H' z => ans_told R.T z.swap hQ hE⟩
  exact (y1.swap).dupF (A := TupA v sd) (SL.td (.tail _ (.tail _ m)) y1).fix
/-- what get tells -/
def getD (s : Bst) (d p b : Nat) : PyData := match goneB s d with
  | some nm => refD (some nm)
  | none => match s.disks[d]? with
    | some (some k) => .int (((k.blocks[p]?).getD [])[b]?.getD 0 : Nat)
    | _ => .none
theorem told_get {x : Addr} {s : Bst} {d p b : Nat} (N : LN R k j C Cd cls) (h1 : σ[1]? = some (some (.ref x))) (h3 : σ[3]? = some (some (.int (d : Nat)))) (h6 : σ[6]? = some (some (.int (p : Nat)))) (h7 : σ[7]? = some (some (.int (b : Nat)))) (hd : d < s.disks.length) (hb : b < 4)
    (hrow : ∀ k, s.disks[d]? = some (some k) → ∃ row, k.blocks[p]? = some row ∧ row.length = 4) (y : SL (tabsOk R.T :: BenchA C Cd x s :: l) H)
    (h : ∀ v H', SL (TupA v (getD s d p b) :: tabsOk R.T :: BenchA C Cd x s :: l) H' → Q v H') : wE R k (.callZ "_law_told" (.cons (.lam (.meth (.var 1) "get" [.dget1, .dget2] (.cons (.var 3) (.cons (.var 6) (.cons (.var 7) .nil))))) .nil)) W σ H Q := by
  obtain ⟨gt, Nt⟩ := N.tol
  obtain ⟨gm, Nm⟩ := N.get
  refine e_toldT (r := goneB s d) Nt y gone_nm (fun nm e => by unfold getD; rw [e]) (fun H1 Qn En y1 hQ hE => ?_) h
  refine e_own N.xc N.B Nm.me (by decide +kernel) h1 y1 (by walk_at "mem") (es_cons (e_var h3 (es_cons (e_var h6 (es_cons (e_var h7 (es_nil ?_)))))))
  refine x_sp Nm.ok ⟨x, s, tabsOk R.T :: l, d, p, b, rfl, hd, hb, SL.p1 (A := BenchA C Cd x s) y1 (by walk_at "pk"), fun nm e => hE nm H1 e y1, fun kd hs hk => ?_⟩
  obtain ⟨row, hr, h4⟩ := hrow kd hk
  have hg : goneB s d = none := by unfold goneB; rw [hs, if_neg Bool.false_ne_true, hk]
  have hn : row[b]? = some (row[b]'(by omega)) := List.getElem?_eq_getElem (by omega)
  refine ⟨row, _, hr, hn, hQ _ _ hg ?_⟩
  have : getD s d p b = .int ((row[b]'(by omega) : Nat) : Int) := by
    unfold getD
    rw [hg]
    simp only [hk, hr, Option.getD_some, hn]
  rw [this]
  exact y1.dupF (A := TupA (.int _) (.int _)) (TD.int _)
def sheetD (s : Bst) (d : Nat) : PyData := match goneB s d with
  | some nm => refD (some nm)
  | none => match s.disks[d]? with
    | some (some k) => k.laid
    | _ => .none
theorem told_sheet {x : Addr} {s : Bst} {d : Nat} (N : LN R k j C Cd cls) (h1 : σ[1]? = some (some (.ref x))) (h3 : σ[3]? = some (some (.int (d : Nat)))) (hd : d < s.disks.length) (hok : BstOk2 s) (y : SL (tabsOk R.T :: BenchA C Cd x s :: l) H)
    (h : ∀ v H', SL (TupA v (sheetD s d) :: tabsOk R.T :: BenchA C Cd x s :: l) H' → Q v H') : wE R k (.callZ "_law_told" (.cons (.lam (.meth (.var 1) "sheet" [] (.cons (.var 3) .nil))) .nil)) W σ H Q := by
  obtain ⟨gt, Nt⟩ := N.tol
  obtain ⟨gm, Nm⟩ := N.sheet
  refine e_toldT (r := goneB s d) Nt y gone_nm (fun nm e => by unfold sheetD; rw [e]) (fun H1 Qn En y1 hQ hE => ?_) h
  refine e_own N.xc N.B Nm.me (by decide +kernel) h1 y1 (by walk_at "mem") (es_cons (e_var h3 (es_nil ?_)))
  refine x_sp Nm.ok ⟨x, s, tabsOk R.T :: l, d, rfl, hd, SL.p1 (A := BenchA C Cd x s) y1 (by walk_at "pk"), fun nm e => hE nm H1 e y1, fun kd hs hk => ⟨(hok.2.2 d kd hk).2.1, fun v H' z => ?_⟩⟩
  have hg : goneB s d = none := by unfold goneB; rw [hs, if_neg Bool.false_ne_true, hk]
  refine hQ _ _ hg ?_
  have : sheetD s d = kd.laid := by
    unfold sheetD
    rw [hg]
    simp only [hk]
  rw [this]
  exact SL.p3 (A := TupA v kd.laid) (B := tabsOk R.T) (C := BenchA C Cd x s) z (by walk_at "pk") (by walk_at "pk") (by walk_at "pk")
end

end Zw

set_option Elab.async false
set_option linter.all false
set_option maxRecDepth 100000
set_option maxHeartbeats 4000000
namespace Zw
open PySem PySem.Spec PyProof.Rows L2
local macro_rules | `(tactic| walk_at "mem") => `(tactic| (first | exact List.Mem.head _ | (apply List.Mem.tail; walk_at "mem")))
local macro_rules | `(tactic| walk_at "rp") => `(tactic| (first | exact Rp.hd | (apply Rp.tl; walk_at "rp")))
local macro_rules | `(tactic| walk_at "pk") => `(tactic| (first | exact Pk.hd | (apply Pk.tl; walk_at "pk")))
local macro_rules | `(tactic| walk_at "go1") => `(tactic| with_reducible (first
  | refine q_set ?_ | refine q_exp ?_ | refine q_doc ?_ | refine q_pass ?_ | refine q_ret ?_ | refine q_retN ?_ | refine q_brk ?_ | refine q_cont ?_ | refine q_if ?_ | refine q_par ?_ | refine q_setFld ?_ | refine q_setSub ?_ | refine q_for ?_
  | refine e_int ?_ | refine e_str ?_ | refine e_bl ?_ | refine e_non ?_ | refine e_bin ?_ | refine e_neg ?_ | refine e_nt ?_ | refine e_cmp ?_ | refine e_chain ?_ | refine e_and ?_ | refine e_or ?_ | refine e_ife ?_ | refine e_fld ?_ | refine e_sub ?_ | refine e_tup ?_ | refine e_lst ?_ | refine e_bi ?_ | refine e_meth ?_
  | refine es_nil ?_ | refine es_cons ?_ | refine t_yes ?_ | refine t_nt ?_ | refine t_and ?_ | refine t_or ?_ | refine t_cmp ?_ | refine t_val ?_ | refine i_seq ?_ | refine i_rng ?_
  | refine x_bl ?_ | refine x_in ?_ | refine tr_bl ?_ | refine tr_int ?_ | refine tr_non ?_
  | refine b_add ?_ | refine b_sub ?_ | refine c_lt ?_ | refine c_le ?_ | refine c_gt ?_ | refine c_ge ?_ | refine c_is ?_ | refine c_isnt ?_ | refine i_intB ?_ | refine c_eqI ?_ | refine c_neI ?_ | refine c_eqB ?_ | refine c_neB ?_ | refine c_eqS ?_ | refine q_nil ?_ | refine x_itt ?_ | refine x_iff ?_))
local macro_rules | `(tactic| walk_at "go2") => `(tactic| (first
  | ((with_reducible refine' e_var ?hg ?hh); (case hg => rfl))
  | ((with_reducible refine' s_0 ?hx ?hm ?hg ?hh); (case hx => assumption); (case hm => walk_at "mem"); (case hg => rfl))
  | ((with_reducible refine' s_1 ?hx ?hm ?hg ?hh); (case hx => assumption); (case hm => walk_at "mem"); (case hg => rfl))
  | ((with_reducible refine' s_2 ?hx ?hm ?hg ?hh); (case hx => assumption); (case hm => walk_at "mem"); (case hg => rfl))
  | ((with_reducible refine' p_0 ?hx ?hr ?hb ?hh); (case hx => assumption); (case hr => walk_at "rp"); (case hb => first | (simp; done) | decide); intros)
  | ((with_reducible refine' p_1 ?hx ?hr ?hb ?hh); (case hx => assumption); (case hr => walk_at "rp"); (case hb => first | (simp; done) | decide); intros)
  | ((with_reducible refine' n_lst ?hx ?hb ?hh); (case hx => assumption); (case hb => first | decide | (simp only [List.length_cons, List.length_nil]; decide)); intros)
  | ((with_reducible refine' n_tup ?hx ?hb ?hh); (case hx => assumption); (case hb => first | decide | (simp only [List.length_cons, List.length_nil]; decide)); intros)))
local macro_rules | `(tactic| walk_at "go") => `(tactic| repeat (first | walk_at "go1" | walk_at "go2"))
local macro_rules | `(tactic| walk_at "go2") => `(tactic| (first
  | ((with_reducible refine' e_ty ?hg ?hh); (case hg => rfl))
  | ((with_reducible refine' isi_dp ok_bl ?hx ?hh); (case hx => assumption))
  | ((with_reducible refine' isi_dp ok_int ?hx ?hh); (case hx => assumption))
  | ((with_reducible refine' isi_dp ok_str ?hx ?hh); (case hx => assumption))
  | ((with_reducible refine' isi_dp ok_tup ?hx ?hh); (case hx => assumption))
  | ((with_reducible refine' isi_dp ok_lst ?hx ?hh); (case hx => assumption))
  | ((with_reducible refine' x_dt ?hc ?hh); (case hc => rfl))
  | ((with_reducible refine' x_df ?hc ?hh); (case hc => rfl))))
def N_turn : List Str := ["_law_box", "_law_bench", "_law_own", "_law_disk_here", "_law_way", "_law_there", "_law_piece", "_law_block", "_law_worth", "_law_late", "_law_due", "_law_sheet", "_law_is_bad", "_law_found"]
def e_pieceE : E := .ife (.cmp (.cmp .IsNot (.var 5) .non)) (.callB .len (.cons (.sub (.var 5) (.str "blocks")) .nil)) (.int 12)
def b_turn : Ss := (.cons (.setTup (.nm 3 (.nm 4 .nil)) (.tup (.cons (.call "_law_take" (.cons (.var 0) (.cons (.callB .len (.cons (.sub (.var 2) (.str "disks")) .nil)) .nil))) (.cons (.call "_law_take" (.cons (.var 0) (.cons (.int 12) .nil))) .nil))))
  (.cons (.set 5 (.sub (.sub (.var 2) (.str "disks")) (.var 3)))
  (.cons (.set 6 (.call "_law_take" (.cons (.var 0) (.cons (.ife (.cmp (.cmp .IsNot (.var 5) .non)) (.callB .len (.cons (.sub (.var 5) (.str "blocks")) .nil)) (.int 12)) .nil))))
  (.cons (.setTup (.nm 7 (.nm 8 .nil)) (.tup (.cons (.call "_law_take" (.cons (.var 0) (.cons (.int 4) .nil))) (.cons (.call "_law_take" (.cons (.var 0) (.cons (.int 1000) .nil))) .nil))))
  (.cons (.set 9 (.ife (.val (.sub (.var 2) (.str "stands"))) (.tup (.cons (.str "Stopped") (.cons (.int 0) .nil))) (.tup (.cons (.str "NoDisk") (.cons (.int 0) .nil)))))
  (.cons (.ifs (.cmp (.cmp .Lt (.var 4) (.int 4)))
  (.cons (.set 10 (.call "_law_deed" (.cons (.var 2) (.cons (.var 3) .nil))))
  (.cons (.ifs (.cmp (.cmp .Is (.var 10) .non))
  (.cons (.setSub (.sub (.sub (.var 5) (.str "blocks")) (.var 6)) (.var 7) (.var 8))
  .nil)
  .nil)
  (.cons (.ret (.call "_law_alike" (.cons (.callZ "_law_told" (.cons (.lam (.meth (.var 1) "put" [] (.cons (.var 3) (.cons (.var 6) (.cons (.var 7) (.cons (.var 8) .nil)))))) .nil)) (.cons (.var 10) .nil))))
  .nil)))
  .nil)
  (.cons (.ifs (.cmp (.cmp .Lt (.var 4) (.int 6)))
  (.cons (.set 10 (.call "_law_deed" (.cons (.var 2) (.cons (.var 3) .nil))))
  (.cons (.set 11 (.tup (.cons (.var 8) (.cons (.cut (.str "xyz") .no (.part (.var 7))) (.cons (.tup (.cons .non (.cons (.var 8) .nil))) .nil)))))
  (.cons (.ifs (.cmp (.cmp .Is (.var 10) .non))
  (.cons (.setSub (.var 5) (.str "sheet") (.var 11))
  .nil)
  .nil)
  (.cons (.ret (.call "_law_alike" (.cons (.callZ "_law_told" (.cons (.lam (.meth (.var 1) "lay" [] (.cons (.var 3) (.cons (.var 11) .nil)))) .nil)) (.cons (.var 10) .nil))))
  .nil))))
  .nil)
  (.cons (.ifs (.cmp (.cmp .Lt (.var 4) (.int 8)))
  (.cons (.set 12 (.or2 (.cmp .Is (.var 5) .non) (.sub (.var 2) (.str "stands"))))
  (.cons (.set 10 (.ife (.val (.var 12)) (.lst (.cons (.var 9) (.cons (.var 9) .nil))) (.lst (.cons (.sub (.sub (.sub (.var 5) (.str "blocks")) (.var 6)) (.var 7)) (.cons (.sub (.var 5) (.str "sheet")) .nil)))))
  (.cons (.set 13 (.lst (.cons (.callZ "_law_told" (.cons (.lam (.meth (.var 1) "get" [.dget1, .dget2] (.cons (.var 3) (.cons (.var 6) (.cons (.var 7) .nil))))) .nil)) (.cons (.callZ "_law_told" (.cons (.lam (.meth (.var 1) "sheet" [] (.cons (.var 3) .nil))) .nil)) .nil))))
  (.cons (.ret (.call "_law_alike" (.cons (.var 13) (.cons (.var 10) .nil))))
  .nil))))
  .nil)
  (.cons (.ret (.call "_law_comes" (.cons (.var 0) (.cons (.var 1) (.cons (.var 2) (.cons (.var 3) (.cons (.var 4) .nil)))))))
  .nil)))))))))
def spTurn (T : List (Addr × Str)) (C Cd : Addr) : Sp := fun vs H Q _ => ∃ (b x o : Addr) (s : Bst) (l : List HP), vs = [.ref b, .ref x, .ref o] ∧ BstOk2 s ∧
  SL (tabsOk T :: BoxA b :: BenchA C Cd x s :: OwnA o s :: l) H ∧ ∀ H' s', BstOk2 s' → SL (tabsOk T :: BoxA b :: BenchA C Cd x s' :: OwnA o s' :: l) H' → Q (.bl true) H'
section
variable {R : Rx} {k j : Nat} {C Cd : Addr} {cls : Str → Addr} {W : WX} {σ : L2.St} {H : Hp} {Q : VK} {l : List HP}
theorem t_nm {i : Nat} {r : Tts} {v : V} {vs : List V} {Q : L2.St → Hp → Prop} (h : wTts R k r W vs (σ.set i (some v)) H Q) : wTts R k (.nm i r) W (v :: vs) σ H Q := h
theorem t_nil {vs : List V} {Q : L2.St → Hp → Prop} (h : Q σ H) : wTts R k .nil W vs σ H Q := h
theorem deed_ok {s : Bst} {d : Nat} {f : Dk → Dk} (h : BstOk2 s) (hf : ∀ k, s.disks[d]? = some (some k) → DkOk2 (f k)) : BstOk2 (deedB s d f).1 := by
  rcases deed_rel (s := s) (d := d) f with ⟨_, k, _, hk, h2, _⟩ | ⟨nm, _, h2, hd⟩ <;> rw [h2]
  · exact ok_set h fun k' e => by
      cases e
      exact hf k hk
  · exact ⟨by rw [hd]; exact h.1, by rw [hd]; exact h.2.1, fun i k e => h.2.2 i k (by rw [← hd]; exact e)⟩
theorem put_ok {p b w : Nat} {kd : Dk} {row : List Nat} (h : DkOk2 kd) (hr : kd.blocks[p]? = some row) : DkOk2 (putD p b w kd) := by
  obtain ⟨⟨h1, h2, h3⟩, h4⟩ := h
  refine ⟨⟨by simpa [putD] using h1, by simpa [putD] using h2, fun r hm => ?_⟩, h4⟩
  simp only [putD, hr, Option.getD_some] at hm
  rcases List.mem_or_eq_of_mem_set hm with hm | rfl
  · exact h3 r hm
  · rw [List.length_set]
    exact h3 row (List.mem_of_getElem? hr)
theorem lay_ok {sd : PyData} {kd : Dk} (h : DkOk2 kd) (hs : Small sd) (hd : sd.depth ≤ 2) : DkOk2 (layD sd kd) := ⟨h.1, hs, hd⟩
/-- how many pieces there are to choose from -/
theorem e_piece {us : List V} {s : Bst} {d : Nat} {v : V} (hok : BstOk2 s) (hd : d < s.disks.length) (h5 : σ[5]? = some (some v)) (hv : us[d]? = some v) (y : SL l H) (m : ∃ r, Pk (All2 ODiskA us s.disks) l r) (h : ∀ m : Nat, 1 ≤ m → m ≤ 12 → (∀ kd, s.disks[d]? = some (some kd) → m = kd.blocks.length) → Q (.int (m : Nat)) H) :
    wE R k (.ife (.cmp (.cmp .IsNot (.var 5) .non)) (.callB .len (.cons (.sub (.var 5) (.str "blocks")) .nil)) (.int 12)) W σ H Q := by
  obtain ⟨r, m⟩ := m
  have e := List.getElem?_eq_getElem hd
  have y1 := All2.open hv e (y.pk m)
  refine e_ife (t_cmp (e_cmp (e_var h5 (e_non ?_))))
  walk_at "go"
  cases ho : s.disks[d] with
  | none =>
    rw [ho] at y1
    obtain ⟨rfl, _⟩ := ODiskA.no y1
    walk_at "go"
    exact h 12 (by decide) (by decide) fun kd hk => by
      rw [e, ho] at hk
      cases hk
  | some kd =>
    rw [ho] at y1
    obtain ⟨a, bv, lv, rfl, y3⟩ := ODiskA.out y1
    obtain ⟨pb, rows, rfl, y2⟩ := BlocksA.out (y3.p1 (A := BlocksA bv kd.blocks) (by walk_at "pk"))
    have hrl : rows.length = kd.blocks.length := All2.len (y2.p1 (by walk_at "pk"))
    refine x_dt (by simp) ?_
    refine e_bi (es_cons (e_sub (e_var h5 (e_str ?_))))
    refine s_z y2 (by walk_at "mem") od_blocks ?_
    walk_at "go"
    refine i_len (len_l (sq_l (SL.get (by walk_at "mem") y2))) ?_
    have hk : s.disks[d]? = some (some kd) := by rw [e, ho]
    obtain ⟨⟨h1, h2, _⟩, _⟩ := hok.2.2 d kd hk
    rw [hrl]
    exact h _ h1 h2 fun kd' hk' => by
      rw [hk] at hk'
      cases hk'
      rfl
theorem log2_small {m : Nat} (h : m ≤ 1000) (h0 : 0 < m) : (m : Int).natAbs.log2 < 9000 := by
  have h2 : (m : Int).natAbs = m := by omega
  rw [h2]
  have := (Nat.log2_lt (n := m) (k := 10) (by omega)).mpr (by omega)
  omega
/-- take(box, m) -/
theorem x_take {f b : Addr} {m : Nat} {E : XK} (N : Has R.toRt k "_law_take" f spTake) (h0 : 0 < m) (h1 : m ≤ 1000) (y : SL (BoxA b :: l) H) (h : ∀ H' n, n < m → SL (BoxA b :: l) H' → Q (.int (n : Nat)) H') : ∃ sp, CallOk R.toRt k f sp ∧ sp [.ref b, .int (m : Nat)] H Q E :=
  x_sp N.ok ⟨b, (m : Nat), l, rfl, by omega, log2_small h1 h0, y, fun H' i i0 i1 z => by
    obtain ⟨n, rfl⟩ : ∃ n : Nat, i = (n : Int) := ⟨i.toNat, by omega⟩
    exact h H' n (by omega) z⟩
end

end Zw

set_option Elab.async false
set_option linter.all false
set_option maxRecDepth 100000
set_option maxHeartbeats 4000000
namespace Zw
open PySem PySem.Spec PyProof.Rows L2
local macro_rules | `(tactic| walk_at "mem") => `(tactic| (first | exact List.Mem.head _ | (apply List.Mem.tail; walk_at "mem")))
local macro_rules | `(tactic| walk_at "rp") => `(tactic| (first | exact Rp.hd | (apply Rp.tl; walk_at "rp")))
local macro_rules | `(tactic| walk_at "pk") => `(tactic| (first | exact Pk.hd | (apply Pk.tl; walk_at "pk")))
local macro_rules | `(tactic| walk_at "go1") => `(tactic| with_reducible (first
  | refine q_set ?_ | refine q_exp ?_ | refine q_doc ?_ | refine q_pass ?_ | refine q_ret ?_ | refine q_retN ?_ | refine q_brk ?_ | refine q_cont ?_ | refine q_if ?_ | refine q_par ?_ | refine q_setFld ?_ | refine q_setSub ?_ | refine q_for ?_
  | refine e_int ?_ | refine e_str ?_ | refine e_bl ?_ | refine e_non ?_ | refine e_bin ?_ | refine e_neg ?_ | refine e_nt ?_ | refine e_cmp ?_ | refine e_chain ?_ | refine e_and ?_ | refine e_or ?_ | refine e_ife ?_ | refine e_fld ?_ | refine e_sub ?_ | refine e_tup ?_ | refine e_lst ?_ | refine e_bi ?_ | refine e_meth ?_
  | refine es_nil ?_ | refine es_cons ?_ | refine t_yes ?_ | refine t_nt ?_ | refine t_and ?_ | refine t_or ?_ | refine t_cmp ?_ | refine t_val ?_ | refine i_seq ?_ | refine i_rng ?_
  | refine x_bl ?_ | refine x_in ?_ | refine tr_bl ?_ | refine tr_int ?_ | refine tr_non ?_
  | refine b_add ?_ | refine b_sub ?_ | refine c_lt ?_ | refine c_le ?_ | refine c_gt ?_ | refine c_ge ?_ | refine c_is ?_ | refine c_isnt ?_ | refine i_intB ?_ | refine c_eqI ?_ | refine c_neI ?_ | refine c_eqB ?_ | refine c_neB ?_ | refine c_eqS ?_ | refine q_nil ?_ | refine x_itt ?_ | refine x_iff ?_))
local macro_rules | `(tactic| walk_at "go2") => `(tactic| (first
  | ((with_reducible refine' e_var ?hg ?hh); (case hg => rfl))
  | ((with_reducible refine' s_0 ?hx ?hm ?hg ?hh); (case hx => assumption); (case hm => walk_at "mem"); (case hg => rfl))
  | ((with_reducible refine' s_1 ?hx ?hm ?hg ?hh); (case hx => assumption); (case hm => walk_at "mem"); (case hg => rfl))
  | ((with_reducible refine' s_2 ?hx ?hm ?hg ?hh); (case hx => assumption); (case hm => walk_at "mem"); (case hg => rfl))
  | ((with_reducible refine' p_0 ?hx ?hr ?hb ?hh); (case hx => assumption); (case hr => walk_at "rp"); (case hb => first | (simp; done) | decide); intros)
  | ((with_reducible refine' p_1 ?hx ?hr ?hb ?hh); (case hx => assumption); (case hr => walk_at "rp"); (case hb => first | (simp; done) | decide); intros)
  | ((with_reducible refine' n_lst ?hx ?hb ?hh); (case hx => assumption); (case hb => first | decide | (simp only [List.length_cons, List.length_nil]; decide)); intros)
  | ((with_reducible refine' n_tup ?hx ?hb ?hh); (case hx => assumption); (case hb => first | decide | (simp only [List.length_cons, List.length_nil]; decide)); intros)))
local macro_rules | `(tactic| walk_at "go") => `(tactic| repeat (first | walk_at "go1" | walk_at "go2"))
local macro_rules | `(tactic| walk_at "go2") => `(tactic| (first
  | ((with_reducible refine' e_ty ?hg ?hh); (case hg => rfl))
  | ((with_reducible refine' isi_dp ok_bl ?hx ?hh); (case hx => assumption))
  | ((with_reducible refine' isi_dp ok_int ?hx ?hh); (case hx => assumption))
  | ((with_reducible refine' isi_dp ok_str ?hx ?hh); (case hx => assumption))
  | ((with_reducible refine' isi_dp ok_tup ?hx ?hh); (case hx => assumption))
  | ((with_reducible refine' isi_dp ok_lst ?hx ?hh); (case hx => assumption))
  | ((with_reducible refine' x_dt ?hc ?hh); (case hc => rfl))
  | ((with_reducible refine' x_df ?hc ?hh); (case hc => rfl))))
structure TN (R : Rx) (k j : Nat) (C Cd : Addr) (cls : Str → Addr) : Prop extends LN R k j C Cd cls where
  dee : ∃ f, Has R.toRt k "_law_deed" f spDeed
  com : ∃ f, Has R.toRt k "_law_comes" f (spComes R.T C Cd)
theorem SL.p7 {A B C D E F G : HP} {l r r2 r3 r4 r5 r6 r7 : List HP} {H : Hp} (x : SL l H) (p : Pk A l r) (q : Pk B r r2) (s : Pk C r2 r3) (t : Pk D r3 r4) (u : Pk E r4 r5) (v : Pk F r5 r6) (w : Pk G r6 r7) : SL (A :: B :: C :: D :: E :: F :: G :: r7) H := x.pks (as := [A, B, C, D, E, F, G]) (.cons p (.cons q (.cons s (.cons t (.cons u (.cons v (.cons w .nil)))))))
/-- own, closed again after a deed on a disk -/
theorem own_put {o p a : Addr} {us : List V} {s : Bst} {d : Nat} {k' : Dk} {bv lv : V} {lf : Option Nat} {st : Bool} {dn : Nat} {l : List HP} {H : Hp} (hv : us[d]? = some (.ref a))
    (y : SL (BlocksA bv k'.blocks :: TupA lv k'.laid :: pt a (.dK [(.inr "blocks", bv), (.inr "sheet", lv)]) :: Hole ODiskA us s.disks d :: pt o (ownO p lf st dn) :: pt p (.lst us) :: l) H) : SL (OwnA o ⟨s.disks.set d (some k'), lf, st, dn⟩ :: l) H := by
  have z6 := ODiskA.mk (k := k') (SL.p3 (A := pt a (.dK [(.inr "blocks", bv), (.inr "sheet", lv)])) (B := BlocksA bv k'.blocks) (C := TupA lv k'.laid) y (by walk_at "pk") (by walk_at "pk") (by walk_at "pk"))
  have z7 := All2.closeR hv (SL.p2 (A := ODiskA (.ref a) (some k')) (B := Hole ODiskA us s.disks d) z6 (by walk_at "pk") (by walk_at "pk"))
  exact OwnA.mk (p := p) (vs := us) (SL.p3 (A := pt o (ownO p lf st dn)) (B := pt p (.lst us)) (C := All2 ODiskA us (s.disks.set d (some k'))) z7 (by walk_at "pk") (by walk_at "pk") (by walk_at "pk"))
theorem td_none {v : V} {H : Hp} (t : TD H v (refD none)) : v = .non := by
  cases t
  rfl
theorem td_some {v : V} {nm : Str} {H : Hp} (t : TD H v (refD (some nm))) : ∃ a, v = .ref a := by
  obtain ⟨a, _, e, _⟩ := TD.inv t
  exact ⟨a, e⟩
theorem ref_dep2 {r : Option Str} : (refD r).depth ≤ 2 := by cases r <;> simp [refD, PyData.depth, PyData.depthAll]
theorem get_ok {s : Bst} {d p b : Nat} : szB (getD s d p b) = true ∧ (getD s d p b).depth ≤ 2 := by
  unfold getD
  split
  · exact ⟨ref_sz, ref_dep2⟩
  · split
    · exact ⟨rfl, by simp [PyData.depth]⟩
    · exact ⟨rfl, by simp [PyData.depth]⟩
theorem sheetD_ok {s : Bst} {d : Nat} (h : BstOk2 s) : szB (sheetD s d) = true ∧ (sheetD s d).depth ≤ 2 := by
  unfold sheetD
  split
  · exact ⟨ref_sz, ref_dep2⟩
  · split
    · rename_i k hk
      have := h.2.2 d k hk
      exact ⟨this.2.1.2, this.2.2⟩
    · exact ⟨rfl, by simp [PyData.depth]⟩
theorem two_dp {K : PySem.W.Frag} {a : Addr} {v1 v2 : V} {d1 d2 : PyData} {H : Hp} (e : H a = some (.lst [v1, v2])) (h1 : TD H v1 d1) (h2 : TD H v2 d2) : Dp K H (.ref a) (.list [d1, d2]) := .lst (sq_l e) (.cons h1.dp (.cons h2.dp .nil))
theorem two_sz {d1 d2 : PyData} (h1 : szB d1 = true) (h2 : szB d2 = true) : szB (.list [d1, d2]) = true := by
  have sz2 : (2 : Nat) ≤ sizeLine := by rw [sizeLine_eq]; decide
  simp [szB, szAll, sz2, h1, h2]
theorem two_dep {d1 d2 : PyData} {n : Nat} (h1 : d1.depth ≤ n) (h2 : d2.depth ≤ n) : (PyData.list [d1, d2]).depth ≤ n + 1 := by
  simp only [PyData.depth, PyData.depthAll]
  omega
def sheetV (w : Nat) (z : Str) : PyData := .tuple [.int (w : Nat), .str z, .tuple [.none, .int (w : Nat)]]
theorem e_cutT {R : Rx} {k : Nat} {W : WX} {σ : L2.St} {H : Hp} {Q : VK} {a : E} {lo hi : O} (h : wE R k a W σ H fun x H1 => wO R k lo W σ H1 fun l H2 => wO R k hi W σ H2 fun u H3 => rCut R.K x l u H3 Q) : wE R k (.cut a lo hi) W σ H Q := h
theorem o_partT {R : Rx} {k : Nat} {W : WX} {σ : L2.St} {H : Hp} {e : E} {Q : Option Int → Hp → Prop} (h : wE R k e W σ H fun x H1 => ∃ i, x = .int i ∧ Q (some i) H1) : wO R k (.part e) W σ H Q := h
theorem o_noT {R : Rx} {k : Nat} {W : WX} {σ : L2.St} {H : Hp} {Q : Option Int → Hp → Prop} (h : Q none H) : wO R k .no W σ H Q := h
theorem xyz_len : ("xyz" : Str).length = 3 := by decide +kernel
theorem sheet_small {w : Nat} {z : Str} : Small (sheetV w z) ∧ (sheetV w z).depth ≤ 2 := by
  have sz : (3 : Nat) ≤ sizeLine := by rw [sizeLine_eq]; decide
  have sz2 : (2 : Nat) ≤ sizeLine := by omega
  refine ⟨⟨by simp [sheetV, costD, costs], by simp [sheetV, szB, szAll, sz, sz2]⟩, by simp [sheetV, PyData.depth, PyData.depthAll]⟩
section
variable {R : Rx} {k j : Nat} {C Cd : Addr} {cls : Str → Addr} {H : Hp} {Q : VK} {X : XK}
theorem w_turn {vs : List V} (N : TN R k j C Cd cls) (h : spTurn R.T C Cd vs H Q X) :
    wSs R k b_turn (fun cls d _ H' => X cls d H') { nx := fun _ H' => Q .non H', rt := Q } (L2.start N_turn vs) H := by
  obtain ⟨b, x, o, s, l, rfl, hok, y0, hq⟩ := h
  have sz : (500 : Nat) < sizeLine := by rw [sizeLine_eq]; decide
  obtain ⟨fa, Na⟩ := N.ali
  obtain ⟨ft, Nt⟩ := N.tak
  obtain ⟨fd, Nd⟩ := N.dee
  obtain ⟨fc, Nc⟩ := N.com
  obtain ⟨p, us, y⟩ := OwnA.out (y0.p1 (A := OwnA o s) (by walk_at "pk"))
  have hul : us.length = s.disks.length := All2.len (y.p1 (A := All2 ODiskA us s.disks) (by walk_at "pk"))
  have h1 := hok.1
  have h6 := hok.2.1
  show wSs R k b_turn _ _ [some (.ref b), some (.ref x), some (.ref o), none, none, none, none, none, none, none, none, none, none, none] H
  unfold b_turn
  refine q_tup ?_
  walk_at "go"
  refine e_call Nt.mg Nt.kp ?_
  walk_at "go"
  refine s_z y (by walk_at "mem") own_disks ?_
  walk_at "go"
  refine i_len (len_l (sq_l (SL.get (by walk_at "mem") y))) ?_
  walk_at "go"
  refine x_take Nt (by omega) (by omega) (y.p1 (A := BoxA b) (by walk_at "pk")) fun H1 d hd y1 => ?_
  walk_at "go"
  refine e_call Nt.mg Nt.kp ?_
  walk_at "go"
  refine x_take (m := 12) Nt (by omega) (by omega) y1 fun H2 w hw y2 => ?_
  walk_at "go"
  rename_i q1 H3 y3
  refine ⟨q1, _, rfl, .inl (st_t (SL.get (.head _) y3)), rfl, t_nm (t_nm (t_nil ?_))⟩
  have y4 := y3.tail
  clear y3 y2 y1 y y0
  rw [hul] at hd
  have e := List.getElem?_eq_getElem hd
  obtain ⟨v, hv1, hv2, hv3⟩ := odisk_at (y4.p1 (A := All2 ODiskA us s.disks) (by walk_at "pk")) e
  show wSs R k _ _ _ [some (.ref b), some (.ref x), some (.ref o), some (.int (d : Nat)), some (.int (w : Nat)), none, none, none, none, none, none, none, none, none] H3
  walk_at "go"
  refine s_z y4 (by walk_at "mem") own_disks ?_
  walk_at "go"
  refine s_at y4 (by walk_at "mem") hv1 ?_
  show wSs R k _ _ _ [some (.ref b), some (.ref x), some (.ref o), some (.int (d : Nat)), some (.int (w : Nat)), some v, none, none, none, none, none, none, none, none] H3
  refine q_set (e_call Nt.mg Nt.kp ?_)
  refine es_cons (e_var rfl (es_cons ?_))
  refine e_piece hok hd rfl hv1 y4 ⟨_, by walk_at "pk"⟩ fun m hm1 hm2 hmk => es_nil ?_
  refine x_take Nt (by omega) (by omega) (y4.p1 (A := BoxA b) (by walk_at "pk")) fun H4 pc hpc y5 => ?_
  show wSs R k _ _ _ [some (.ref b), some (.ref x), some (.ref o), some (.int (d : Nat)), some (.int (w : Nat)), some v, some (.int (pc : Nat)), none, none, none, none, none, none, none] H4
  refine q_tup ?_
  walk_at "go"
  refine e_call Nt.mg Nt.kp ?_
  walk_at "go"
  refine x_take (m := 4) Nt (by omega) (by omega) y5 fun H5 bl hbl y6 => ?_
  walk_at "go"
  refine e_call Nt.mg Nt.kp ?_
  walk_at "go"
  refine x_take (m := 1000) Nt (by omega) (by omega) y6 fun H6 wo hwo y7 => ?_
  walk_at "go"
  rename_i q2 H7 y8
  refine ⟨q2, _, rfl, .inl (st_t (SL.get (.head _) y8)), rfl, t_nm (t_nm (t_nil ?_))⟩
  have y9 := y8.tail
  clear y8 y7 y6 y5 y4
  show wSs R k _ _ _ [some (.ref b), some (.ref x), some (.ref o), some (.int (d : Nat)), some (.int (w : Nat)), some v, some (.int (pc : Nat)), some (.int (bl : Nat)), some (.int (wo : Nat)), none, none, none, none, none] H7
  refine q_set (e_late (p := p) (s := s) rfl y9 (by walk_at "mem") fun q H8 ya => ?_)
  show wSs R k _ _ _ [some (.ref b), some (.ref x), some (.ref o), some (.int (d : Nat)), some (.int (w : Nat)), some v, some (.int (pc : Nat)), some (.int (bl : Nat)), some (.int (wo : Nat)), some (.ref q), none, none, none, none] H8
  have yb : SL (pt o (ownO p s.left s.stop s.done) :: pt p (.lst us) :: All2 ODiskA us s.disks :: TupA (.ref q) (refD (some (lateB s))) :: tabsOk R.T :: BoxA b :: BenchA C Cd x s :: l) H8 := SL.p7 ya (by walk_at "pk") (by walk_at "pk") (by walk_at "pk") (by walk_at "pk") (by walk_at "pk") (by walk_at "pk") (by walk_at "pk")
  clear ya y9
  have hrow : ∀ kd, s.disks[d]? = some (some kd) → ∃ row, kd.blocks[pc]? = some row ∧ row.length = 4 := fun kd hk => by
    have := hmk kd hk
    have hlt : pc < kd.blocks.length := by omega
    exact ⟨_, List.getElem?_eq_getElem hlt, (hok.2.2 d kd hk).1.2.2 _ (List.getElem_mem hlt)⟩
  walk_at "go"
  refine x_ite (fun cw => ?_) fun cw => ?_
  · -- put
    walk_at "go"
    refine e_call Nd.mg Nd.kp ?_
    walk_at "go"
    refine x_sp Nd.ok ⟨o, p, us, s, _, d, rfl, hd, yb, fun v10 H9 z => ?_⟩
    have t10 : TD H9 v10 (refD (deedB s d id).2) := SL.td (.head _) z
    -- the ending
    have fin : ∀ (D : Ends) (H3 : Hp), D.rt = Q → SL (TupA v10 (refD (deedB s d (putD pc bl wo)).2) :: OwnA o (deedB s d (putD pc bl wo)).1 :: tabsOk R.T :: BoxA b :: BenchA C Cd x s :: l) H3 →
        wSs R k (.cons (.ret (.call "_law_alike" (.cons (.callZ "_law_told" (.cons (.lam (.meth (.var 1) "put" [] (.cons (.var 3) (.cons (.var 6) (.cons (.var 7) (.cons (.var 8) .nil)))))) .nil)) (.cons (.var 10) .nil)))) .nil) (fun cls d _ H' => X cls d H') D [some (.ref b), some (.ref x), some (.ref o), some (.int (d : Nat)), some (.int (w : Nat)), some v, some (.int (pc : Nat)), some (.int (bl : Nat)), some (.int (wo : Nat)), some (.ref q), some v10, none, none, none] H3 := fun D H3 hD z => by
      refine q_ret ?_
      rw [hD]
      refine e_call Na.mg Na.kp (es_cons ?_)
      refine told_put (x := x) (s := s) (d := d) (p := pc) (b := bl) (w := wo) N.toLN rfl rfl rfl rfl rfl hd hbl (by omega) hrow (SL.p2 (A := tabsOk R.T) (B := BenchA C Cd x s) z (by walk_at "pk") (by walk_at "pk")) fun vt H4 z4 => ?_
      walk_at "go"
      refine x_same Na (d := refD (deedB s d (putD pc bl wo)).2) (SL.td (.head _) z4) (SL.td (.tail _ (.tail _ (.tail _ (.head _)))) z4) ref_sz ref_dep ?_
      refine hq H4 _ (deed_ok (f := putD pc bl wo) hok fun kd hk => by
        obtain ⟨row, hr, _⟩ := hrow kd hk
        exact put_ok (hok.2.2 d kd hk) hr) ?_
      exact SL.p4 (A := tabsOk R.T) (B := BoxA b) (C := BenchA C Cd x (deedB s d (putD pc bl wo)).1) (D := OwnA o (deedB s d (putD pc bl wo)).1) (z4.tail.drop (A := TupA v10 _) (by walk_at "pk")) (by walk_at "pk") (by walk_at "pk") (by walk_at "pk") (by walk_at "pk")
    walk_at "go"
    rcases deed_rel (s := s) (d := d) (putD pc bl wo) with ⟨hr, kd, hs, hk, hrel, hds⟩ | ⟨nm, hr, hrel, hds⟩
    · rw [hr] at t10
      obtain rfl := td_none t10
      have ho : s.disks[d] = some kd := by
        rw [e] at hk
        exact Option.some.inj hk
      obtain ⟨a, rfl⟩ := hv3 kd ho
      obtain ⟨row, hrw, hr4⟩ := hrow kd hk
      rw [hrel] at fin
      walk_at "go"
      have z1 := All2.open hv1 hk (z.p1 (A := All2 ODiskA us s.disks) (by walk_at "pk"))
      obtain ⟨a', bv, lv, ea, z2⟩ := ODiskA.out z1
      cases ea
      obtain ⟨pb, rows, rfl, z3⟩ := BlocksA.out (z2.p1 (A := BlocksA bv kd.blocks) (by walk_at "pk"))
      have hrl : rows.length = kd.blocks.length := All2.len (z3.p1 (by walk_at "pk"))
      have hpl := (List.getElem?_eq_some_iff.mp hrw).1
      have hrv := List.getElem?_eq_getElem (l := rows) (i := pc) (by omega)
      obtain ⟨r, er, z4⟩ := RowA.out (All2.open hrv hrw (z3.p1 (by walk_at "pk")))
      rw [er] at hrv
      refine s_z z4 (by walk_at "mem") od_blocks ?_
      walk_at "go"
      refine s_at z4 (by walk_at "mem") hrv ?_
      walk_at "go"
      refine p_lst z4 (xs := numsV row) (l' := _) (by walk_at "rp") (by unfold numsV; simp; omega) fun Ha za => ?_
      have en : (numsV row).set bl (.int (wo : Nat)) = numsV (row.set bl wo) := by unfold numsV; rw [List.map_set]
      rw [en] at za
      have zb := RowA.mk (SL.p1 (A := pt r (.lst (numsV (row.set bl wo)))) za (by walk_at "pk"))
      have zc := All2.closeR hrv (SL.p2 (A := RowA (.ref r) (row.set bl wo)) (B := Hole RowA rows kd.blocks pc) zb (by walk_at "pk") (by walk_at "pk"))
      have zd := BlocksA.mk (SL.p2 (A := pt pb (.lst rows)) (B := All2 RowA rows (kd.blocks.set pc (row.set bl wo))) zc (by walk_at "pk") (by walk_at "pk"))
      have ek : (putD pc bl wo kd) = { kd with blocks := kd.blocks.set pc (row.set bl wo) } := by unfold putD; rw [hrw]; rfl
      have ze := own_put (k' := putD pc bl wo kd) (o := o) (p := p) (s := s) (d := d) (bv := .ref pb) (lv := lv) (lf := (deedB s d id).1.left) (st := (deedB s d id).1.stop) (dn := (deedB s d id).1.done) hv1 (by
        rw [ek]
        exact SL.p6 (A := BlocksA (.ref pb) (kd.blocks.set pc (row.set bl wo))) (B := TupA lv kd.laid) (C := pt a (.dK [(.inr "blocks", .ref pb), (.inr "sheet", lv)])) (D := Hole ODiskA us s.disks d) (E := pt o (ownO p _ _ _)) (F := pt p (.lst us)) zd (by walk_at "pk") (by walk_at "pk") (by walk_at "pk") (by walk_at "pk") (by walk_at "pk") (by walk_at "pk"))
      rw [hr] at ze
      refine fin _ Ha rfl ?_
      exact (SL.p2 (A := TupA .non (refD none)) (B := OwnA o ⟨s.disks.set d (some (putD pc bl wo kd)), (deedB s d id).1.left, (deedB s d id).1.stop, (deedB s d id).1.done⟩) (ze.drop (A := TupA (.ref q) (refD (some (lateB s)))) (by walk_at "pk")) (by walk_at "pk") (by walk_at "pk"))
    · rw [hr] at t10
      obtain ⟨a10, rfl⟩ := td_some t10
      rw [hrel] at fin
      refine x_df (by simp) ?_
      walk_at "go"
      refine fin _ H9 rfl ?_
      have za := OwnA.mk (o := o) (p := p) (vs := us) (s := (deedB s d id).1) (by
        rw [hds]
        exact SL.p3 (A := pt o (ownO p (deedB s d id).1.left (deedB s d id).1.stop (deedB s d id).1.done)) (B := pt p (.lst us)) (C := All2 ODiskA us s.disks) z (by walk_at "pk") (by walk_at "pk") (by walk_at "pk"))
      rw [hr] at za
      exact SL.p2 (A := TupA (.ref a10) (refD (some nm))) (B := OwnA o (deedB s d id).1) (za.drop (A := TupA (.ref q) (refD (some (lateB s)))) (by walk_at "pk")) (by walk_at "pk") (by walk_at "pk")
  · walk_at "go"
    refine x_ite (fun cw2 => ?_) fun cw2 => ?_
    · -- lay
      walk_at "go"
      refine e_call Nd.mg Nd.kp ?_
      walk_at "go"
      refine x_sp Nd.ok ⟨o, p, us, s, _, d, rfl, hd, yb, fun v10 H9 z => ?_⟩
      have t10 : TD H9 v10 (refD (deedB s d id).2) := SL.td (.head _) z
      show wSs R k _ _ _ [some (.ref b), some (.ref x), some (.ref o), some (.int (d : Nat)), some (.int (w : Nat)), some v, some (.int (pc : Nat)), some (.int (bl : Nat)), some (.int (wo : Nat)), some (.ref q), some v10, none, none, none] H9
      walk_at "go"
      refine e_cutT (e_str (o_noT (o_partT (e_var rfl ⟨_, rfl, ?_⟩))))
      refine .inr (.inr ⟨_, rfl, by rw [xyz_len]; omega, ?_⟩)
      generalize hzt : cutS "xyz" none (some ((bl : Nat) : Int)) = zt
      walk_at "go"
      rename_i qa Ha za qb Hb zb
      have ts : TD Hb (.ref qb) (sheetV wo zt) := TD.tup (SL.get (.head _) zb) rfl fun i v d a c => by
        rcases i with _ | _ | _ | i
        · cases a; cases c; exact .int _
        · cases a; cases c; exact .str _
        · cases a; cases c
          refine TD.tup (SL.get (.tail _ (.head _)) zb) rfl fun i v d a c => ?_
          rcases i with _ | _ | i
          · cases a; cases c; exact .non
          · cases a; cases c; exact .int _
          · cases a
        · cases a
      have zz := (zb.tail.tail).dupF (A := TupA (.ref qb) (sheetV wo zt)) ts.fix
      clear za zb
      obtain ⟨hsm, hdep⟩ := sheet_small (w := wo) (z := zt)
      generalize sheetV wo zt = sd at zz hsm hdep ts
      have fin : ∀ (D : Ends) (H3 : Hp), D.rt = Q → SL (TupA v10 (refD (deedB s d (layD sd)).2) :: OwnA o (deedB s d (layD sd)).1 :: TupA (.ref qb) sd :: tabsOk R.T :: BoxA b :: BenchA C Cd x s :: l) H3 →
          wSs R k (.cons (.ret (.call "_law_alike" (.cons (.callZ "_law_told" (.cons (.lam (.meth (.var 1) "lay" [] (.cons (.var 3) (.cons (.var 11) .nil)))) .nil)) (.cons (.var 10) .nil)))) .nil) (fun cls d _ H' => X cls d H') D [some (.ref b), some (.ref x), some (.ref o), some (.int (d : Nat)), some (.int (w : Nat)), some v, some (.int (pc : Nat)), some (.int (bl : Nat)), some (.int (wo : Nat)), some (.ref q), some v10, some (.ref qb), none, none] H3 := fun D H3 hD z => by
        refine q_ret ?_
        rw [hD]
        refine e_call Na.mg Na.kp (es_cons ?_)
        refine told_lay (x := x) (s := s) (d := d) (v := .ref qb) (sd := sd) N.toLN rfl rfl rfl hd hsm (l := TupA v10 (refD (deedB s d (layD sd)).2) :: OwnA o (deedB s d (layD sd)).1 :: TupA (.ref qb) sd :: BoxA b :: l) (by walk_at "mem") (SL.p2 (A := tabsOk R.T) (B := BenchA C Cd x s) z (by walk_at "pk") (by walk_at "pk")) fun vt H4 z4 => ?_
        walk_at "go"
        refine x_same Na (d := refD (deedB s d (layD sd)).2) (SL.td (.head _) z4) (SL.td (.tail _ (.tail _ (.tail _ (.head _)))) z4) ref_sz ref_dep ?_
        refine hq H4 _ (deed_ok (f := layD sd) hok fun kd hk => lay_ok (hok.2.2 d kd hk) hsm hdep) ?_
        exact SL.p4 (A := tabsOk R.T) (B := BoxA b) (C := BenchA C Cd x (deedB s d (layD sd)).1) (D := OwnA o (deedB s d (layD sd)).1) ((z4.tail.drop (A := TupA v10 _) (by walk_at "pk")).drop (A := TupA (.ref qb) sd) (by walk_at "pk")) (by walk_at "pk") (by walk_at "pk") (by walk_at "pk") (by walk_at "pk")
      rcases deed_rel (s := s) (d := d) (layD sd) with ⟨hr, kd, hs, hk, hrel, hds⟩ | ⟨nm, hr, hrel, hds⟩
      · rw [hr] at t10
        obtain rfl := td_none t10
        have ho : s.disks[d] = some kd := by
          rw [e] at hk
          exact Option.some.inj hk
        obtain ⟨a, rfl⟩ := hv3 kd ho
        rw [hrel] at fin
        walk_at "go"
        have z1 := All2.open hv1 hk (zz.p1 (A := All2 ODiskA us s.disks) (by walk_at "pk"))
        obtain ⟨a', bv, lv, ea, z2⟩ := ODiskA.out z1
        cases ea
        refine p_dct (l := pt a (.dK [(.inr "blocks", bv), (.inr "sheet", lv)]) :: _) z2 .hd (show (2 : Nat) < _ by omega) fun Hc zc => ?_
        rw [od_putS] at zc
        have t9 : TD Hc (.ref qb) sd := SL.td (by walk_at "mem") zc
        have ze := own_put (k' := layD sd kd) (o := o) (p := p) (s := s) (d := d) (bv := bv) (lv := .ref qb) (lf := (deedB s d id).1.left) (st := (deedB s d id).1.stop) (dn := (deedB s d id).1.done) hv1 (by
          exact SL.p6 (A := BlocksA bv kd.blocks) (B := TupA (.ref qb) sd) (C := pt a (.dK [(.inr "blocks", bv), (.inr "sheet", .ref qb)])) (D := Hole ODiskA us s.disks d) (E := pt o (ownO p _ _ _)) (F := pt p (.lst us)) (zc.dupF (A := TupA (.ref qb) sd) t9.fix) (by walk_at "pk") (by walk_at "pk") (by walk_at "pk") (by walk_at "pk") (by walk_at "pk") (by walk_at "pk"))
        rw [hr] at ze
        refine fin _ Hc rfl ?_
        exact (SL.p3 (A := TupA .non (refD none)) (B := OwnA o ⟨s.disks.set d (some (layD sd kd)), (deedB s d id).1.left, (deedB s d id).1.stop, (deedB s d id).1.done⟩) (C := TupA (.ref qb) sd) ((ze.drop (A := TupA (.ref q) (refD (some (lateB s)))) (by walk_at "pk")).drop (A := TupA lv kd.laid) (by walk_at "pk")) (by walk_at "pk") (by walk_at "pk") (by walk_at "pk"))
      · rw [hr] at t10
        obtain ⟨a10, rfl⟩ := td_some t10
        rw [hrel] at fin
        refine x_df (by simp) ?_
        walk_at "go"
        refine fin _ Hb rfl ?_
        have za := OwnA.mk (o := o) (p := p) (vs := us) (s := (deedB s d id).1) (by
          rw [hds]
          exact SL.p3 (A := pt o (ownO p (deedB s d id).1.left (deedB s d id).1.stop (deedB s d id).1.done)) (B := pt p (.lst us)) (C := All2 ODiskA us s.disks) zz (by walk_at "pk") (by walk_at "pk") (by walk_at "pk"))
        rw [hr] at za
        exact SL.p3 (A := TupA (.ref a10) (refD (some nm))) (B := OwnA o (deedB s d id).1) (C := TupA (.ref qb) sd) (za.drop (A := TupA (.ref q) (refD (some (lateB s)))) (by walk_at "pk")) (by walk_at "pk") (by walk_at "pk") (by walk_at "pk")
    · walk_at "go"
      refine x_ite (fun cw3 => ?_) fun cw3 => ?_
      · -- get and sheet
        have fin : ∀ (D : Ends) (c12 : Option V) (w1 w2 : V) (du : Addr) (H3 : Hp), D.rt = Q → SL (pt du (.lst [w1, w2]) :: TupA w1 (getD s d pc bl) :: TupA w2 (sheetD s d) :: OwnA o s :: tabsOk R.T :: BoxA b :: BenchA C Cd x s :: l) H3 →
            wSs R k (.cons (.set 13 (.lst (.cons (.callZ "_law_told" (.cons (.lam (.meth (.var 1) "get" [.dget1, .dget2] (.cons (.var 3) (.cons (.var 6) (.cons (.var 7) .nil))))) .nil)) (.cons (.callZ "_law_told" (.cons (.lam (.meth (.var 1) "sheet" [] (.cons (.var 3) .nil))) .nil)) .nil))))
              (.cons (.ret (.call "_law_alike" (.cons (.var 13) (.cons (.var 10) .nil)))) .nil)) (fun cls d _ H' => X cls d H') D [some (.ref b), some (.ref x), some (.ref o), some (.int (d : Nat)), some (.int (w : Nat)), some v, some (.int (pc : Nat)), some (.int (bl : Nat)), some (.int (wo : Nat)), some (.ref q), some (.ref du), none, c12, none] H3 := fun D c12 w1 w2 du H3 hD z => by
          refine q_set (e_lst (es_cons ?_))
          refine told_get (x := x) (s := s) (d := d) (p := pc) (b := bl) N.toLN rfl rfl rfl rfl hd hbl hrow (SL.p2 (A := tabsOk R.T) (B := BenchA C Cd x s) z (by walk_at "pk") (by walk_at "pk")) fun v1 H4 z4 => es_cons ?_
          refine told_sheet (x := x) (s := s) (d := d) N.toLN rfl rfl hd hok (SL.p2 (A := tabsOk R.T) (B := BenchA C Cd x s) z4 (by walk_at "pk") (by walk_at "pk")) fun v2 H5 z5 => es_nil ?_
          refine n_lst z5 (show (2 : Nat) ≤ _ by omega) fun fo H6 z6 => ?_
          refine q_ret ?_
          rw [hD]
          refine e_call Na.mg Na.kp (es_cons (e_var rfl (es_cons (e_var rfl (es_nil ?_)))))
          have g1 : TD H6 v1 (getD s d pc bl) := SL.td (by walk_at "mem") z6
          have g2 : TD H6 v2 (sheetD s d) := SL.td (by walk_at "mem") z6
          have g3 : TD H6 w1 (getD s d pc bl) := SL.td (by walk_at "mem") z6
          have g4 : TD H6 w2 (sheetD s d) := SL.td (by walk_at "mem") z6
          have s1 := get_ok (s := s) (d := d) (p := pc) (b := bl)
          have s2 := sheetD_ok (d := d) hok
          refine x_sp Na.ok ⟨_, _, .list [getD s d pc bl, sheetD s d], .list [getD s d pc bl, sheetD s d], rfl, two_dp (SL.get (.head _) z6) g1 g2, two_dp (SL.get (p := du) (by walk_at "mem") z6) g3 g4, two_sz s1.1 s2.1, two_dep s1.2 s2.2, fun bb hb => ?_⟩
          obtain rfl : bb = true := hb.mpr rfl
          refine hq H6 s hok ?_
          exact SL.p4 (A := tabsOk R.T) (B := BoxA b) (C := BenchA C Cd x s) (D := OwnA o s) (((((z6.tail.drop (A := TupA v2 _) .hd).drop (A := TupA v1 _) (by walk_at "pk")).drop (A := pt du _) (by walk_at "pk")).drop (A := TupA w1 (getD s d pc bl)) (by walk_at "pk")).drop (A := TupA w2 (sheetD s d)) (by walk_at "pk")) (by walk_at "pk") (by walk_at "pk") (by walk_at "pk") (by walk_at "pk")
        have bad : goneB s d = some (lateB s) → ∀ (D : Ends) (c12 : Option V) (du : Addr) (H3 : Hp), D.rt = Q → SL (pt du (.lst [.ref q, .ref q]) :: pt o (ownO p s.left s.stop s.done) :: pt p (.lst us) :: All2 ODiskA us s.disks :: TupA (.ref q) (refD (some (lateB s))) :: tabsOk R.T :: BoxA b :: BenchA C Cd x s :: l) H3 →
            wSs R k (.cons (.set 13 (.lst (.cons (.callZ "_law_told" (.cons (.lam (.meth (.var 1) "get" [.dget1, .dget2] (.cons (.var 3) (.cons (.var 6) (.cons (.var 7) .nil))))) .nil)) (.cons (.callZ "_law_told" (.cons (.lam (.meth (.var 1) "sheet" [] (.cons (.var 3) .nil))) .nil)) .nil))))
              (.cons (.ret (.call "_law_alike" (.cons (.var 13) (.cons (.var 10) .nil)))) .nil)) (fun cls d _ H' => X cls d H') D [some (.ref b), some (.ref x), some (.ref o), some (.int (d : Nat)), some (.int (w : Nat)), some v, some (.int (pc : Nat)), some (.int (bl : Nat)), some (.int (wo : Nat)), some (.ref q), some (.ref du), none, c12, none] H3 := fun hg D c12 du H3 hD z => by
          have e1 : getD s d pc bl = refD (some (lateB s)) := by unfold getD; rw [hg]
          have e2 : sheetD s d = refD (some (lateB s)) := by unfold sheetD; rw [hg]
          refine fin D c12 (.ref q) (.ref q) du H3 hD ?_
          rw [e1, e2]
          have t := SL.td (v := .ref q) (d := refD (some (lateB s))) (by walk_at "mem") z
          have za := OwnA.mk (SL.p3 (A := pt o (ownO p s.left s.stop s.done)) (B := pt p (.lst us)) (C := All2 ODiskA us s.disks) z (by walk_at "pk") (by walk_at "pk") (by walk_at "pk"))
          exact (SL.p2 (A := pt du (.lst [.ref q, .ref q])) (B := TupA (.ref q) (refD (some (lateB s)))) (za.dupF (A := TupA (.ref q) (refD (some (lateB s)))) t.fix) (by walk_at "pk") (by walk_at "pk")).p4 (A := pt du (.lst [.ref q, .ref q])) (B := TupA (.ref q) (refD (some (lateB s)))) (C := TupA (.ref q) (refD (some (lateB s)))) (D := OwnA o s) (by walk_at "pk") (by walk_at "pk") (by walk_at "pk") (by walk_at "pk")
        walk_at "go"
        cases ho : s.disks[d] with
        | none =>
          obtain rfl := hv2 ho
          have hg : goneB s d = some (lateB s) := by
            unfold goneB lateB
            cases s.stop with
            | true => rfl
            | false => simp [e, ho]
          walk_at "go"
          rename_i du H9 z9
          exact bad hg _ _ du H9 rfl z9
        | some kd =>
          obtain ⟨a, rfl⟩ := hv3 kd ho
          have hk : s.disks[d]? = some (some kd) := by rw [e, ho]
          refine x_df (by simp) ?_
          walk_at "go"
          refine s_z yb (by walk_at "mem") own_stands ?_
          walk_at "go"
          refine x_ite (fun hs => ?_) fun hs => ?_
          · have hg : goneB s d = some (lateB s) := by
              unfold goneB lateB
              rw [hs]
              rfl
            walk_at "go"
            rename_i du H9 z9
            exact bad hg _ _ du H9 rfl z9
          · have hg : goneB s d = none := by
              unfold goneB
              rw [hs, if_neg Bool.false_ne_true, hk]
            obtain ⟨row, hrw, hr4⟩ := hrow kd hk
            have hn : row[bl]? = some (row[bl]'(by omega)) := List.getElem?_eq_getElem (by omega)
            walk_at "go"
            have z1 := All2.open hv1 hk (yb.p1 (A := All2 ODiskA us s.disks) (by walk_at "pk"))
            obtain ⟨a', bv, lv, ea, z2⟩ := ODiskA.out z1
            cases ea
            have tl : TD H8 lv kd.laid := SL.td (by walk_at "mem") z2
            obtain ⟨pb, rows, rfl, z3⟩ := BlocksA.out (z2.p1 (A := BlocksA bv kd.blocks) (by walk_at "pk"))
            have hrl : rows.length = kd.blocks.length := All2.len (z3.p1 (by walk_at "pk"))
            have hpl := (List.getElem?_eq_some_iff.mp hrw).1
            have hrv := List.getElem?_eq_getElem (l := rows) (i := pc) (by omega)
            obtain ⟨r, er, z4⟩ := RowA.out (All2.open hrv hrw (z3.p1 (by walk_at "pk")))
            rw [er] at hrv
            refine s_z z4 (by walk_at "mem") od_blocks ?_
            walk_at "go"
            refine s_at z4 (by walk_at "mem") hrv ?_
            walk_at "go"
            refine s_at z4 (by walk_at "mem") (v := .int ((row[bl]'(by omega) : Nat) : Int)) (by unfold numsV; rw [List.getElem?_map, hn]; rfl) ?_
            walk_at "go"
            refine s_z z4 (by walk_at "mem") od_sheet ?_
            have yl := (yb.dupF (A := TupA lv kd.laid) tl.fix).dupF (A := TupA (.int ((row[bl]'(by omega) : Nat) : Int)) (.int ((row[bl]'(by omega) : Nat) : Int))) (TD.int _)
            refine es_nil (n_lst yl (show (2 : Nat) ≤ _ by omega) fun du H9 z9 => ?_)
            have e1 : getD s d pc bl = .int ((row[bl]'(by omega) : Nat) : Int) := by
              unfold getD
              rw [hg]
              simp only [hk, hrw, Option.getD_some, hn]
            have e2 : sheetD s d = kd.laid := by
              unfold sheetD
              rw [hg]
              simp only [hk]
            refine fin _ _ (.int ((row[bl]'(by omega) : Nat) : Int)) lv du H9 rfl ?_
            rw [e1, e2]
            have za := OwnA.mk (SL.p3 (A := pt o (ownO p s.left s.stop s.done)) (B := pt p (.lst us)) (C := All2 ODiskA us s.disks) z9 (by walk_at "pk") (by walk_at "pk") (by walk_at "pk"))
            exact SL.p4 (A := pt du _) (B := TupA (.int ((row[bl]'(by omega) : Nat) : Int)) _) (C := TupA lv kd.laid) (D := OwnA o s) (za.drop (A := TupA (.ref q) (refD (some (lateB s)))) (by walk_at "pk")) (by walk_at "pk") (by walk_at "pk") (by walk_at "pk") (by walk_at "pk")
      · walk_at "go"
        refine e_call Nc.mg Nc.kp ?_
        walk_at "go"
        simp only [decide_eq_false_iff_not] at cw3
        refine x_sp Nc.ok ⟨b, x, o, s, d, w, l, rfl, by omega, hw, hd, hok, ?_, hq⟩
        have za := OwnA.mk yb
        exact SL.p4 (A := tabsOk R.T) (B := BoxA b) (C := BenchA C Cd x s) (D := OwnA o s) (za.drop (A := TupA (.ref q) (refD (some (lateB s)))) (by walk_at "pk")) (by walk_at "pk") (by walk_at "pk") (by walk_at "pk") (by walk_at "pk")
end

end Zw

set_option Elab.async false
set_option linter.all false
set_option maxRecDepth 100000
set_option maxHeartbeats 4000000
namespace Zw
open PySem PySem.Spec PyProof.Rows L2
local macro_rules | `(tactic| walk_at "mem") => `(tactic| (first | exact List.Mem.head _ | (apply List.Mem.tail; walk_at "mem")))
local macro_rules | `(tactic| walk_at "rp") => `(tactic| (first | exact Rp.hd | (apply Rp.tl; walk_at "rp")))
local macro_rules | `(tactic| walk_at "pk") => `(tactic| (first | exact Pk.hd | (apply Pk.tl; walk_at "pk")))
local macro_rules | `(tactic| walk_at "go1") => `(tactic| with_reducible (first
  | refine q_set ?_ | refine q_exp ?_ | refine q_doc ?_ | refine q_pass ?_ | refine q_ret ?_ | refine q_retN ?_ | refine q_brk ?_ | refine q_cont ?_ | refine q_if ?_ | refine q_par ?_ | refine q_setFld ?_ | refine q_setSub ?_ | refine q_for ?_
  | refine e_int ?_ | refine e_str ?_ | refine e_bl ?_ | refine e_non ?_ | refine e_bin ?_ | refine e_neg ?_ | refine e_nt ?_ | refine e_cmp ?_ | refine e_chain ?_ | refine e_and ?_ | refine e_or ?_ | refine e_ife ?_ | refine e_fld ?_ | refine e_sub ?_ | refine e_tup ?_ | refine e_lst ?_ | refine e_bi ?_ | refine e_meth ?_
  | refine es_nil ?_ | refine es_cons ?_ | refine t_yes ?_ | refine t_nt ?_ | refine t_and ?_ | refine t_or ?_ | refine t_cmp ?_ | refine t_val ?_ | refine i_seq ?_ | refine i_rng ?_
  | refine x_bl ?_ | refine x_in ?_ | refine tr_bl ?_ | refine tr_int ?_ | refine tr_non ?_
  | refine b_add ?_ | refine b_sub ?_ | refine c_lt ?_ | refine c_le ?_ | refine c_gt ?_ | refine c_ge ?_ | refine c_is ?_ | refine c_isnt ?_ | refine i_intB ?_ | refine c_eqI ?_ | refine c_neI ?_ | refine c_eqB ?_ | refine c_neB ?_ | refine c_eqS ?_ | refine q_nil ?_ | refine x_itt ?_ | refine x_iff ?_))
local macro_rules | `(tactic| walk_at "go2") => `(tactic| (first
  | ((with_reducible refine' e_var ?hg ?hh); (case hg => rfl))
  | ((with_reducible refine' s_0 ?hx ?hm ?hg ?hh); (case hx => assumption); (case hm => walk_at "mem"); (case hg => rfl))
  | ((with_reducible refine' s_1 ?hx ?hm ?hg ?hh); (case hx => assumption); (case hm => walk_at "mem"); (case hg => rfl))
  | ((with_reducible refine' s_2 ?hx ?hm ?hg ?hh); (case hx => assumption); (case hm => walk_at "mem"); (case hg => rfl))
  | ((with_reducible refine' p_0 ?hx ?hr ?hb ?hh); (case hx => assumption); (case hr => walk_at "rp"); (case hb => first | (simp; done) | decide); intros)
  | ((with_reducible refine' p_1 ?hx ?hr ?hb ?hh); (case hx => assumption); (case hr => walk_at "rp"); (case hb => first | (simp; done) | decide); intros)
  | ((with_reducible refine' n_lst ?hx ?hb ?hh); (case hx => assumption); (case hb => first | decide | (simp only [List.length_cons, List.length_nil]; decide)); intros)
  | ((with_reducible refine' n_tup ?hx ?hb ?hh); (case hx => assumption); (case hb => first | decide | (simp only [List.length_cons, List.length_nil]; decide)); intros)))
local macro_rules | `(tactic| walk_at "go") => `(tactic| repeat (first | walk_at "go1" | walk_at "go2"))
local macro_rules | `(tactic| walk_at "go2") => `(tactic| (first
  | ((with_reducible refine' e_ty ?hg ?hh); (case hg => rfl))
  | ((with_reducible refine' isi_dp ok_bl ?hx ?hh); (case hx => assumption))
  | ((with_reducible refine' isi_dp ok_int ?hx ?hh); (case hx => assumption))
  | ((with_reducible refine' isi_dp ok_str ?hx ?hh); (case hx => assumption))
  | ((with_reducible refine' isi_dp ok_tup ?hx ?hh); (case hx => assumption))
  | ((with_reducible refine' isi_dp ok_lst ?hx ?hh); (case hx => assumption))
  | ((with_reducible refine' x_dt ?hc ?hh); (case hc => rfl))
  | ((with_reducible refine' x_df ?hc ?hh); (case hc => rfl))))
/-! ## works that all tell the same -/
def N_allT : List Str := ["_law_works", "_law_due", "_law_work"]
def b_allT : Ss := (.cons (.ret (.cmp .Eq (.comp (.var 2) (.nm 2) (.seq (.var 0)) (.nt (.val (.call "_law_alike" (.cons (.call "_law_told" (.cons (.var 2) .nil)) (.cons (.var 1) .nil))))) [2]) (.lst .nil)))
  .nil)
def spAll (R : Rt) (j : Nat) (cls : Str → Addr) : Sp := fun vs H Q _ => ∃ (p q : Addr) (fs : List V) (due : PyData) (J : Nat → List HP → Hp → Prop), vs = [.ref p, .ref q] ∧ fs.length ≤ 5 ∧ szB due = true ∧ due.depth ≤ 3 ∧ J 0 [] H ∧
  (∀ t m H, J t m H → H p = some (.lst fs) ∧ TD H (.ref q) due) ∧
  (∀ t m H D o, J t m H → H D = none → J t (pt D o :: m) (upd H D o)) ∧
  (∀ t m H D o, J t (pt D o :: m) H → H D = some o) ∧
  (∀ t f, fs[t]? = some f → ∃ g G sp, f = .ref g ∧ LamOk R j g G sp ∧ ∀ m H, J t m H → G H ∧ ∀ (QQ : VK) (E : XK), (∀ v H', TD H' v due → J (t + 1) m H' → QQ v H') → (∀ c d H', Refuses cls QQ c d H' → E c d H') → sp [] H QQ E) ∧
  (∀ m H, J fs.length m H → Q (.bl true) H)
theorem e_compT {R : Rx} {k : Nat} {W : WX} {σ : L2.St} {H : Hp} {Q : VK} {elt : E} {i : Nat} {it : I} {tt : T} (h : wI R k it W0 σ H fun J H1 => ∀ D, H1 D = none → ∃ W : Nat → Nat → Hp → Prop, (∃ m, W 0 m (upd H1 D (.lst []))) ∧ ∀ t m H, W t m H →
  (J.stop t H ∧ Q (.ref D) H) ∨ (J.go t H ∧ ∃ Nx : Hp → Prop, (∀ H', Nx H' → ∃ m', m' < m ∧ W (t + 1) m' H') ∧ ∀ x H', J.yld t H x H' → wipe ((wipe σ [i]).set i (some x)) [i] = wipe σ [i] ∧
    wT R k tt W0 ((wipe σ [i]).set i (some x)) H' fun b H3 => if b = true then wE R k elt W0 ((wipe σ [i]).set i (some x)) H3 fun y H4 => ∃ acc, H4 D = some (.lst acc) ∧ acc.length < sizeLine ∧ Nx (upd H4 D (.lst (acc ++ [y]))) else Nx H3)) : wE R k (.comp elt (.nm i) it tt [i]) W σ H Q := .inl h
theorem w_all {R : Rx} {k j : Nat} {cls : Str → Addr} {vs : List V} {H : Hp} {Q : VK} {X : XK} {fa ft : Addr} (Na : Has R.toRt k "_law_alike" fa (spAlike R.K 3)) (Nt : Has R.toRt k "_law_told" ft (spTold R.toRt j cls)) (h : spAll R.toRt j cls vs H Q X) :
    wSs R k b_allT (fun cls d _ H' => X cls d H') { nx := fun _ H' => Q .non H', rt := Q } (L2.start N_allT vs) H := by
  obtain ⟨p, q, fs, due, J, rfl, hfl, hz, hdp, j0, rd, nw, at_, st, en⟩ := h
  have sz : (500 : Nat) < sizeLine := by rw [sizeLine_eq]; decide
  show wSs R k b_allT _ _ [some (.ref p), some (.ref q), none] H
  unfold b_allT
  refine q_ret (e_cmp ?_)
  refine e_compT (i_seq (e_var rfl (.inl ⟨p, rfl, ⟨fs, sq_l (rd _ _ _ j0).1⟩, ?_⟩)))
  intro D hD
  refine ⟨fun t m H => t + m = fs.length ∧ J t [pt D (.lst [])] H, ⟨fs.length, by omega, nw _ _ _ _ _ j0 hD⟩, fun t m H w => ?_⟩
  obtain ⟨hm, jt⟩ := w
  have r1 := rd _ _ _ jt
  by_cases ht : t < fs.length
  · refine .inr ⟨⟨fs, fs[t], sq_l r1.1, List.getElem?_eq_getElem ht⟩, fun H' => J (t + 1) [pt D (.lst [])] H', fun H' h' => ⟨m - 1, by omega, by omega, h'⟩, fun x H' hy => ?_⟩
    obtain ⟨rfl, hx⟩ := hy
    have hx := hx fs (sq_l r1.1)
    obtain ⟨g, G, sp, rfl, hl, hs⟩ := st t x hx
    obtain ⟨hG, hsp⟩ := hs _ _ jt
    refine ⟨rfl, ?_⟩
    refine t_nt (t_val ?_)
    refine e_call Na.mg Na.kp (es_cons ?_)
    refine e_call Nt.mg Nt.kp (es_cons (e_var rfl (es_nil ?_)))
    refine x_sp Nt.ok ⟨g, G, sp, rfl, hG, hl, fun E hE => hsp _ E (fun v H2 tv j2 => ?_) hE⟩
    refine es_cons (e_var rfl (es_nil ?_))
    exact x_same Na tv (rd _ _ _ j2).2 hz hdp (tr_bl (x_iff j2))
  · have : t = fs.length := by omega
    subst this
    refine .inl ⟨⟨fs, sq_l r1.1, Nat.le_refl _⟩, ?_⟩
    refine e_lst (es_nil ⟨Nat.zero_le _, fun D2 h2 => ?_⟩)
    have j2 := nw _ _ _ _ (.lst []) jt h2
    have e1 : (upd H D2 (.lst [])) D2 = some (.lst []) := upd_same
    have e2 : (upd H D2 (.lst [])) D = some (.lst []) := by
      rw [upd_ne (ne_of_none (at_ _ _ _ _ _ jt) h2)]
      exact at_ _ _ _ _ _ jt
    refine c_eqD (d := .list []) (e := .list []) (.lst (sq_l e2) .nil) (.lst (sq_l e1) .nil) rfl rfl ?_
    exact en _ _ j2

end Zw

set_option Elab.async false
set_option linter.all false
set_option maxRecDepth 100000
set_option maxHeartbeats 4000000
namespace Zw
open PySem PySem.Spec PyProof.Rows L2
local macro_rules | `(tactic| walk_at "mem") => `(tactic| (first | exact List.Mem.head _ | (apply List.Mem.tail; walk_at "mem")))
local macro_rules | `(tactic| walk_at "rp") => `(tactic| (first | exact Rp.hd | (apply Rp.tl; walk_at "rp")))
local macro_rules | `(tactic| walk_at "pk") => `(tactic| (first | exact Pk.hd | (apply Pk.tl; walk_at "pk")))
local macro_rules | `(tactic| walk_at "go1") => `(tactic| with_reducible (first
  | refine q_set ?_ | refine q_exp ?_ | refine q_doc ?_ | refine q_pass ?_ | refine q_ret ?_ | refine q_retN ?_ | refine q_brk ?_ | refine q_cont ?_ | refine q_if ?_ | refine q_par ?_ | refine q_setFld ?_ | refine q_setSub ?_ | refine q_for ?_
  | refine e_int ?_ | refine e_str ?_ | refine e_bl ?_ | refine e_non ?_ | refine e_bin ?_ | refine e_neg ?_ | refine e_nt ?_ | refine e_cmp ?_ | refine e_chain ?_ | refine e_and ?_ | refine e_or ?_ | refine e_ife ?_ | refine e_fld ?_ | refine e_sub ?_ | refine e_tup ?_ | refine e_lst ?_ | refine e_bi ?_ | refine e_meth ?_
  | refine es_nil ?_ | refine es_cons ?_ | refine t_yes ?_ | refine t_nt ?_ | refine t_and ?_ | refine t_or ?_ | refine t_cmp ?_ | refine t_val ?_ | refine i_seq ?_ | refine i_rng ?_
  | refine x_bl ?_ | refine x_in ?_ | refine tr_bl ?_ | refine tr_int ?_ | refine tr_non ?_
  | refine b_add ?_ | refine b_sub ?_ | refine c_lt ?_ | refine c_le ?_ | refine c_gt ?_ | refine c_ge ?_ | refine c_is ?_ | refine c_isnt ?_ | refine i_intB ?_ | refine c_eqI ?_ | refine c_neI ?_ | refine c_eqB ?_ | refine c_neB ?_ | refine c_eqS ?_ | refine q_nil ?_ | refine x_itt ?_ | refine x_iff ?_))
local macro_rules | `(tactic| walk_at "go2") => `(tactic| (first
  | ((with_reducible refine' e_var ?hg ?hh); (case hg => rfl))
  | ((with_reducible refine' s_0 ?hx ?hm ?hg ?hh); (case hx => assumption); (case hm => walk_at "mem"); (case hg => rfl))
  | ((with_reducible refine' s_1 ?hx ?hm ?hg ?hh); (case hx => assumption); (case hm => walk_at "mem"); (case hg => rfl))
  | ((with_reducible refine' s_2 ?hx ?hm ?hg ?hh); (case hx => assumption); (case hm => walk_at "mem"); (case hg => rfl))
  | ((with_reducible refine' p_0 ?hx ?hr ?hb ?hh); (case hx => assumption); (case hr => walk_at "rp"); (case hb => first | (simp; done) | decide); intros)
  | ((with_reducible refine' p_1 ?hx ?hr ?hb ?hh); (case hx => assumption); (case hr => walk_at "rp"); (case hb => first | (simp; done) | decide); intros)
  | ((with_reducible refine' n_lst ?hx ?hb ?hh); (case hx => assumption); (case hb => first | decide | (simp only [List.length_cons, List.length_nil]; decide)); intros)
  | ((with_reducible refine' n_tup ?hx ?hb ?hh); (case hx => assumption); (case hb => first | decide | (simp only [List.length_cons, List.length_nil]; decide)); intros)))
local macro_rules | `(tactic| walk_at "go") => `(tactic| repeat (first | walk_at "go1" | walk_at "go2"))
local macro_rules | `(tactic| walk_at "go2") => `(tactic| (first
  | ((with_reducible refine' e_ty ?hg ?hh); (case hg => rfl))
  | ((with_reducible refine' isi_dp ok_bl ?hx ?hh); (case hx => assumption))
  | ((with_reducible refine' isi_dp ok_int ?hx ?hh); (case hx => assumption))
  | ((with_reducible refine' isi_dp ok_str ?hx ?hh); (case hx => assumption))
  | ((with_reducible refine' isi_dp ok_tup ?hx ?hh); (case hx => assumption))
  | ((with_reducible refine' isi_dp ok_lst ?hx ?hh); (case hx => assumption))
  | ((with_reducible refine' x_dt ?hc ?hh); (case hc => rfl))
  | ((with_reducible refine' x_df ?hc ?hh); (case hc => rfl))))
theorem less_at {cz H : Hp} {a : Addr} {o : HO} (e : less cz H a = some o) : cz a = none ∧ H a = some o := by
  rcases cz_or cz a with ⟨u, q⟩ | q
  · rw [less_cz q] at e
    cases e
  · rw [less_no q] at e
    exact ⟨q, e⟩
theorem less_upd {cz H : Hp} {a : Addr} {o : HO} (q : cz a = none) : less cz (upd H a o) = upd (less cz H) a o := by
  funext b
  by_cases hb : b = a
  · subst hb
    rw [less_no q, upd_same, upd_same]
  · rw [upd_ne hb]
    rcases cz_or cz b with ⟨u, q2⟩ | q2
    · rw [less_cz q2, less_cz q2]
    · rw [less_no q2, less_no q2, upd_ne hb]
theorem SL.right : ∀ {m l : List HP} {H : Hp}, SL (m ++ l) H → SL l H
  | [], _, _, y => y
  | _ :: _, _, _, y => SL.right (SL.tail y)
def knowF (fz : List (Addr × HO)) : HP := fun h => ∀ p ∈ fz, h p.1 = some p.2
section
variable {R : Rx} {k j : Nat} {W : WX} {σ : L2.St} {H : Hp} {Q : VK} {l : List HP} {cls : Str → Addr}
theorem e_lamK {b : E} (x : SL (tabsOk R.T :: l) H) (h : ∀ f fz H1, SL (knowF fz :: tabsOk R.T :: l) H1 → R.M f fz (fun j σ cz => spLam (fun Ex σ H Q => wE R j b (fun cls d _ H' => Ex cls d H') σ H Q) σ cz) → Q (.ref f) H1) : wE R k (.lam b) W σ H Q :=
  ⟨SL.up tabs_up (.head _) x, fun f fz H1 kt t1 hz hf hM => h f fz H1 ((x.lam kt t1).dupF (A := knowF fz) fun p hp => fx_at (hz p hp) (hf p hp)) hM⟩
theorem know_up {fz : List (Addr × HO)} : ∀ h h', Sub h h' → knowF fz h → knowF fz h' := fun _ _ s t p hp => s _ _ (t p hp)
/-- all(works, (nm, 0)), every work refuses so -/
theorem e_allZ {g wk q : Addr} {bs : List E} {fs : List V} {nm : Str} (N : CallEnv R.toRt k g (spAll R.toRt (j + 1) cls)) (hnm : nm = "Stopped" ∨ nm = "NoDisk") (Bt : Nat → HP) (Z : List HP) (hl : fs.length ≤ 5)
    (hbs : ∀ (t : Nat) f, fs[t]? = some f → ∃ b g fz, bs[t]? = some b ∧ f = .ref g ∧ R.M g fz (fun j σ cz => spLam (fun Ex σ H Q => wE R j b (fun cls d _ H' => Ex cls d H') σ H Q) σ cz) ∧ knowF fz ∈ Z)
    (hm1 : pt wk (.lst fs) ∈ Z) (hm2 : TupA (.ref q) (refD (some nm)) ∈ Z) (y : SL (Bt 0 :: Z) H)
    (hb : ∀ (t : Nat) b H1 (Qn : VK) (En : XK) l', bs[t]? = some b → SL (Bt t :: l') H1 → (∀ H', SL (Bt (t + 1) :: l') H' → Rsd En (cls nm) nm H') → wE R j b (fun c d _ H' => En c d H') σ H1 Qn)
    (hq : ∀ H', SL (Bt fs.length :: Z) H' → Q (.bl true) H') :
    ∃ sp, CallEnv R.toRt k g sp ∧ ∀ cz : Hp, CzK cz → (∀ a o, cz a = some o → H a = none) →
      (∀ f fz φ, R.M f fz φ → ∀ j, LamOk R.toRt (j + 1) f (knows cz fz) (φ j σ cz)) → sp [.ref wk, .ref q] (join cz H) (fun v H2 => (∀ a o, cz a = some o → H2 a = some o) → Q v (less cz H2)) fun _ _ _ => False := by
  refine ⟨_, N, fun cz ck cn hL => ⟨wk, q, fs, refD (some nm), fun t m H' => (∀ a o, cz a = some o → H' a = some o) ∧ SL (Bt t :: (m ++ Z)) (less cz H'), rfl, hl, ref_sz, ref_dep, ⟨fun a o e => join_cz e, by rw [less_join cn]; exact y⟩, ?_, ?_, ?_, ?_, ?_⟩⟩
  · rintro t m H' ⟨j1, j2⟩
    exact ⟨(less_at (SL.get (.tail _ (List.mem_append_right _ hm1)) j2)).2, (SL.td (.tail _ (List.mem_append_right _ hm2)) j2).up fun a o e => (less_at e).2⟩
  · rintro t m H' D o ⟨j1, j2⟩ hD
    have q1 : cz D = none := by
      rcases cz_or cz D with ⟨u, q⟩ | q
      · have := j1 _ _ q
        rw [hD] at this
        cases this
      · exact q
    refine ⟨fun a u e => ?_, ?_⟩
    · have : a ≠ D := by
        rintro rfl
        rw [q1] at e
        cases e
      rw [upd_ne this]
      exact j1 a u e
    · rw [less_upd q1]
      refine SL.swap (j2.new o ?_)
      rw [less_no q1]
      exact hD
  · rintro t m H' D o ⟨j1, j2⟩
    exact (less_at (SL.get (.tail _ (.head _)) j2)).2
  · intro t f hf
    obtain ⟨b, gf, fz, hb1, rfl, hM, hz⟩ := hbs t f hf
    refine ⟨gf, knows cz fz, _, rfl, hL gf fz _ hM j, fun m H' ⟨j1, j2⟩ => ⟨⟨j1, fun p hp => ?_⟩, fun QQ E hQ hE => ⟨rfl, ?_⟩⟩⟩
    · exact (less_at (SL.up (A := knowF fz) know_up (.tail _ (List.mem_append_right _ hz)) j2 p hp)).2
    · refine hb t b (less cz H') _ (fun c d H'' => (∀ a o, cz a = some o → H'' a = none) → E c d (join cz H'')) (m ++ Z) hb1 j2 fun H'' z dd hd n => ?_
      have hm : nm ∈ kindNames ∧ nm ≠ "BadText" := by
        rcases hnm with rfl | rfl <;> exact ⟨by decide +kernel, by decide +kernel⟩
      have q1 : ∀ a o, (upd H'' dd (.xd [("kind", .str nm)])) a = some o → cz a = none := fun a o e => by
        rcases cz_or cz a with ⟨u, q⟩ | q
        · rw [n _ _ q] at e
          cases e
        · exact q
      refine hE _ _ _ ⟨nm, hm.1, hm.2, rfl, ⟨dd, _, rfl, by rw [join_no (q1 dd _ upd_same)]; exact upd_same⟩, fun p H3 up ep => hQ (.ref p) H3 ?_ ⟨fun a o e => up a o (join_cz e), ?_⟩⟩
      · refine TD.tup (ds := [.str nm, .int 0]) ep rfl fun i v d a b => ?_
        rcases i with _ | _ | i
        · cases a; cases b; exact .str _
        · cases a; cases b; exact .int _
        · cases a
      · refine (z.upd_new hd (o := .xd [("kind", .str nm)])).mono fun a o e => ?_
        have q2 := q1 a o e
        rw [less_no q2]
        exact up a o (by rw [join_no q2]; exact e)
  · rintro m H' ⟨j1, j2⟩ _
    refine hq _ ?_
    have : SL (m ++ (Bt fs.length :: Z)) (less cz H') := j2.perm List.perm_middle.symm
    exact this.right
end

end Zw

set_option Elab.async false
set_option linter.all false
set_option maxRecDepth 100000
set_option maxHeartbeats 4000000
namespace Zw
open PySem PySem.Spec PyProof.Rows L2
local macro_rules | `(tactic| walk_at "mem") => `(tactic| (first | exact List.Mem.head _ | (apply List.Mem.tail; walk_at "mem")))
local macro_rules | `(tactic| walk_at "rp") => `(tactic| (first | exact Rp.hd | (apply Rp.tl; walk_at "rp")))
local macro_rules | `(tactic| walk_at "pk") => `(tactic| (first | exact Pk.hd | (apply Pk.tl; walk_at "pk")))
local macro_rules | `(tactic| walk_at "go1") => `(tactic| with_reducible (first
  | refine q_set ?_ | refine q_exp ?_ | refine q_doc ?_ | refine q_pass ?_ | refine q_ret ?_ | refine q_retN ?_ | refine q_brk ?_ | refine q_cont ?_ | refine q_if ?_ | refine q_par ?_ | refine q_setFld ?_ | refine q_setSub ?_ | refine q_for ?_
  | refine e_int ?_ | refine e_str ?_ | refine e_bl ?_ | refine e_non ?_ | refine e_bin ?_ | refine e_neg ?_ | refine e_nt ?_ | refine e_cmp ?_ | refine e_chain ?_ | refine e_and ?_ | refine e_or ?_ | refine e_ife ?_ | refine e_fld ?_ | refine e_sub ?_ | refine e_tup ?_ | refine e_lst ?_ | refine e_bi ?_ | refine e_meth ?_
  | refine es_nil ?_ | refine es_cons ?_ | refine t_yes ?_ | refine t_nt ?_ | refine t_and ?_ | refine t_or ?_ | refine t_cmp ?_ | refine t_val ?_ | refine i_seq ?_ | refine i_rng ?_
  | refine x_bl ?_ | refine x_in ?_ | refine tr_bl ?_ | refine tr_int ?_ | refine tr_non ?_
  | refine b_add ?_ | refine b_sub ?_ | refine c_lt ?_ | refine c_le ?_ | refine c_gt ?_ | refine c_ge ?_ | refine c_is ?_ | refine c_isnt ?_ | refine i_intB ?_ | refine c_eqI ?_ | refine c_neI ?_ | refine c_eqB ?_ | refine c_neB ?_ | refine c_eqS ?_ | refine q_nil ?_ | refine x_itt ?_ | refine x_iff ?_))
local macro_rules | `(tactic| walk_at "go2") => `(tactic| (first
  | ((with_reducible refine' e_var ?hg ?hh); (case hg => rfl))
  | ((with_reducible refine' s_0 ?hx ?hm ?hg ?hh); (case hx => assumption); (case hm => walk_at "mem"); (case hg => rfl))
  | ((with_reducible refine' s_1 ?hx ?hm ?hg ?hh); (case hx => assumption); (case hm => walk_at "mem"); (case hg => rfl))
  | ((with_reducible refine' s_2 ?hx ?hm ?hg ?hh); (case hx => assumption); (case hm => walk_at "mem"); (case hg => rfl))
  | ((with_reducible refine' p_0 ?hx ?hr ?hb ?hh); (case hx => assumption); (case hr => walk_at "rp"); (case hb => first | (simp; done) | decide); intros)
  | ((with_reducible refine' p_1 ?hx ?hr ?hb ?hh); (case hx => assumption); (case hr => walk_at "rp"); (case hb => first | (simp; done) | decide); intros)
  | ((with_reducible refine' n_lst ?hx ?hb ?hh); (case hx => assumption); (case hb => first | decide | (simp only [List.length_cons, List.length_nil]; decide)); intros)
  | ((with_reducible refine' n_tup ?hx ?hb ?hh); (case hx => assumption); (case hb => first | decide | (simp only [List.length_cons, List.length_nil]; decide)); intros)))
local macro_rules | `(tactic| walk_at "go") => `(tactic| repeat (first | walk_at "go1" | walk_at "go2"))
local macro_rules | `(tactic| walk_at "go2") => `(tactic| (first
  | ((with_reducible refine' e_ty ?hg ?hh); (case hg => rfl))
  | ((with_reducible refine' isi_dp ok_bl ?hx ?hh); (case hx => assumption))
  | ((with_reducible refine' isi_dp ok_int ?hx ?hh); (case hx => assumption))
  | ((with_reducible refine' isi_dp ok_str ?hx ?hh); (case hx => assumption))
  | ((with_reducible refine' isi_dp ok_tup ?hx ?hh); (case hx => assumption))
  | ((with_reducible refine' isi_dp ok_lst ?hx ?hh); (case hx => assumption))
  | ((with_reducible refine' x_dt ?hc ?hh); (case hc => rfl))
  | ((with_reducible refine' x_df ?hc ?hh); (case hc => rfl))))
def N_is_long : List Str := ["_law_box", "_law_bench", "_law_many", "_law_turn_here", "_law_works"]
def wk1 : E := .meth (.var 1) "put" [] (.cons (.int 0) (.cons (.int 0) (.cons (.int 0) (.cons (.int 1) .nil))))
def wk2 : E := .meth (.var 1) "lay" [] (.cons (.int 0) (.cons (.tup .nil) .nil))
def wk3 : E := .meth (.var 1) "get" [.dget1, .dget2] (.cons (.int 0) (.cons (.int 0) (.cons (.int 0) .nil)))
def b_is_long : Ss := (.cons (.setTup (.nm 1 (.nm 2 .nil)) (.tup (.cons (.call "Bench" (.cons (.lst (.cons (.int 2) .nil)) .nil)) (.cons (.call "_law_take" (.cons (.var 0) (.cons (.int 500) .nil))) .nil))))
  (.cons (.exp (.meth (.var 1) "arm" [] (.cons (.var 2) .nil)))
  (.cons (.fors (.nm 3) (.rng1 (.var 2))
  (.cons (.exp (.meth (.var 1) "put" [] (.cons (.int 0) (.cons (.bin .Mod (.var 3) (.int 2)) (.cons (.int 3) (.cons (.var 3) .nil))))))
  .nil))
  (.cons (.set 4 (.lst (.cons (.lam wk1) (.cons (.lam wk2) (.cons (.lam wk3) .nil)))))
  (.cons (.ret (.and2 (.cmp .Eq (.meth (.var 1) "deeds" [] .nil) (.var 2)) (.callZ "_law_all" (.cons (.var 4) (.cons (.tup (.cons (.str "Stopped") (.cons (.int 0) .nil))) .nil)))))
  .nil)))))
def spLong (T : List (Addr × Str)) : Sp := fun vs H Q _ => ∃ (b : Addr) (l : List HP), vs = [.ref b] ∧ SL (tabsOk T :: BoxA b :: l) H ∧ ∀ H', SL (tabsOk T :: BoxA b :: l) H' → Q (.bl true) H'
structure IN (R : Rx) (k j : Nat) (C Cd : Addr) (cls : Str → Addr) : Prop extends LN R k j C Cd cls where
  bnc : Has R.toRt k "Bench" C (spMake C (spBenchInit C Cd))
  putK : ∃ g, HasM R.toRt k C "put" g (spPut C Cd cls)
  armK : ∃ g, HasM R.toRt k C "arm" g (spArm C Cd)
  deedsK : ∃ g, HasM R.toRt k C "deeds" g (spDeeds C Cd)
  all : ∃ g, HasZ R.toRt k "_law_all" g (spAll R.toRt (j + 1) cls)
theorem made_bench {C Cd q : Addr} {ns : List Nat} {l : List HP} {H : Hp} {Q : VK} {E : XK} (h1 : 1 ≤ ns.length) (h6 : ns.length ≤ 6) (hns : ∀ n ∈ ns, 1 ≤ n ∧ n ≤ 12) (y : SL (pt q (.lst (numsV ns)) :: l) H) (h : ∀ a H', SL (BenchA C Cd a (freshB ns) :: pt q (.lst (numsV ns)) :: l) H' → Q (.ref a) H') : spMake C (spBenchInit C Cd) [.ref q] H Q E :=
  fun x dx hx hd ne => ⟨x, dx, q, ns, l, rfl, h1, h6, hns, y.made hx hd ne, fun H' z => ⟨rfl, h x H' z⟩⟩
def LongS (n t : Nat) (s : Bst) : Prop := ∃ kd, s.disks = [some kd] ∧ kd.blocks.length = 2 ∧ (∀ row ∈ kd.blocks, row.length = 4) ∧ s.left = some (n - t) ∧ s.stop = false ∧ s.done = t
theorem long_row {n t p : Nat} {s : Bst} (h : LongS n t s) (hp : p < 2) : ∀ k, s.disks[0]? = some (some k) → ∃ row, k.blocks[p]? = some row ∧ row.length = 4 := fun k hk => by
  obtain ⟨kd, e, h2, h3, _⟩ := h
  rw [e] at hk
  cases hk
  exact ⟨_, List.getElem?_eq_getElem (by omega), h3 _ (List.getElem_mem (by omega))⟩
theorem long_put {n t w : Nat} {s : Bst} (h : LongS n t s) (ht : t < n) : LongS n (t + 1) (deedB s 0 (putD (t % 2) 3 w)).1 ∧ (deedB s 0 (putD (t % 2) 3 w)).2 = none := by
  obtain ⟨row, hr, hr4⟩ : ∃ row, True ∧ True := ⟨(), trivial, trivial⟩
  have hrow := long_row (p := t % 2) h (by omega)
  obtain ⟨kd, e, h2, h3, h4, h5, h6⟩ := h
  have hk : s.disks[0]? = some (some kd) := by rw [e]; rfl
  obtain ⟨row, hr, hr4⟩ := hrow kd hk
  have hl : s.left = some ((n - t - 1) + 1) := by rw [h4]; congr 1; omega
  rw [deedB_yes h5 hk (left' := some (n - t - 1)) (.inr ⟨_, hl, rfl⟩)]
  refine ⟨⟨putD (t % 2) 3 w kd, by rw [e]; rfl, by simpa [putD] using h2, fun r hm => ?_, by simp only; congr 1, rfl, by simp only [h6]⟩, rfl⟩
  simp only [putD, hr, Option.getD_some] at hm
  rcases List.mem_or_eq_of_mem_set hm with hm | rfl
  · exact h3 r hm
  · rw [List.length_set]
    exact hr4
section
variable {R : Rx} {k j : Nat} {C Cd : Addr} {cls : Str → Addr} {H : Hp} {Q : VK} {X : XK}
theorem w_is_long {vs : List V} (N : IN R k j C Cd cls) (h : spLong R.T vs H Q X) :
    wSs R k b_is_long (fun cls d _ H' => X cls d H') { nx := fun _ H' => Q .non H', rt := Q } (L2.start N_is_long vs) H := by
  obtain ⟨b, l, rfl, y0, hq⟩ := h
  have sz : (500 : Nat) < sizeLine := by rw [sizeLine_eq]; decide
  obtain ⟨ft, Nt⟩ := N.tak
  obtain ⟨gp, Np⟩ := N.putK
  obtain ⟨ga, Nar⟩ := N.armK
  obtain ⟨gd, Nd⟩ := N.deedsK
  obtain ⟨gz, Nz⟩ := N.all
  show wSs R k b_is_long _ _ [some (.ref b), none, none, none, none] H
  unfold b_is_long
  refine q_tup ?_
  walk_at "go"
  refine e_call N.bnc.mg N.bnc.kp ?_
  walk_at "go"
  rename_i q0 H1 y1
  have y1 : SL (pt q0 (.lst (numsV [2])) :: tabsOk R.T :: BoxA b :: l) H1 := y1
  refine x_sp N.bnc.ok (made_bench (by decide) (by decide) (by decide) y1 fun x H2 y2 => ?_)
  walk_at "go"
  refine e_call Nt.mg Nt.kp ?_
  walk_at "go"
  refine x_take (m := 500) Nt (by omega) (by omega) (y2.p1 (A := BoxA b) (by walk_at "pk")) fun H3 n hn y3 => ?_
  walk_at "go"
  rename_i q2 H4 y4
  refine ⟨q2, _, rfl, .inl (st_t (SL.get (.head _) y4)), rfl, t_nm (t_nm (t_nil ?_))⟩
  have y5 := y4.tail.drop (A := pt q0 _) (by walk_at "pk")
  clear y4 y3 y2 y1 y0
  show wSs R k _ _ _ [some (.ref b), some (.ref x), some (.int (n : Nat)), none, none] H4
  refine q_exp (e_own (s := freshB [2]) N.xc N.B Nar.me (by decide +kernel) rfl y5 (by walk_at "mem") ?_)
  walk_at "go"
  refine x_sp Nar.ok ⟨x, freshB [2], _, n, rfl, by omega, y5.p1 (A := BenchA C Cd x (freshB [2])) (by walk_at "pk"), fun H5 y6 => ?_⟩
  walk_at "go"
  refine l_rng' (n := n) (fun t σ H => (∃ s, LongS n t s ∧ SL (BenchA C Cd x s :: BoxA b :: tabsOk R.T :: l) H) ∧ ∃ c3 c4, σ = [some (.ref b), some (.ref x), some (.int (n : Nat)), c3, c4]) (by omega)
    ⟨⟨_, ⟨freshDk 2, rfl, rfl, by decide, rfl, rfl, rfl⟩, y6⟩, _, _, rfl⟩ (fun t σ H ht I => ?_) fun σ H I => ?_
  · obtain ⟨⟨s, hs, y⟩, c3, c4, rfl⟩ := I
    obtain ⟨hs2, hr2⟩ := long_put (w := t) hs ht
    have hl : s.disks.length = 1 := by obtain ⟨kd, e, _⟩ := hs; rw [e]; rfl
    refine q_exp (e_own (s := s) N.xc N.B Np.me (by decide +kernel) rfl y (by walk_at "mem") ?_)
    walk_at "go"
    refine b_mod (by decide) ?_
    rw [show ((t : Int) % 2) = ((t % 2 : Nat) : Int) by omega]
    walk_at "go"
    refine x_sp Np.ok ⟨x, s, _, 0, t % 2, 3, t, rfl, by omega, by decide, by omega, long_row hs (by omega), y, fun H' z => ?_⟩
    rw [hr2]
    exact ⟨⟨_, hs2, z⟩, _, _, rfl⟩
  · obtain ⟨⟨s, hs, y⟩, c3, c4, rfl⟩ := I
    obtain ⟨kd, e1, e2, e3, e4, e5, e6⟩ := id hs
    have hl : s.disks.length = 1 := by rw [e1]; rfl
    have hk : s.disks[0]? = some (some kd) := by rw [e1]; rfl
    have hl0 : s.left = some 0 := by rw [e4]; congr 1; omega
    have hd1 : ∀ f, deedB s 0 f = (({ s with stop := true } : Bst), some ("Stopped" : Str)) := fun f => deedB_end e5 hk hl0
    have hg2 : goneB ({ s with stop := true } : Bst) 0 = some ("Stopped" : Str) := by unfold goneB; rw [if_pos rfl]
    have hd2 : ∀ f, deedB ({ s with stop := true } : Bst) 0 f = (({ s with stop := true } : Bst), some ("Stopped" : Str)) := fun f => deedB_gone hg2
    refine q_set (e_lst (es_cons (e_lamK (y.p1 (A := tabsOk R.T) (by walk_at "pk")) fun f1 z1 H1 y1 hM1 => es_cons (e_lamK (y1.p1 (A := tabsOk R.T) (by walk_at "pk")) fun f2 z2 H2 y2 hM2 => es_cons (e_lamK (y2.p1 (A := tabsOk R.T) (by walk_at "pk")) fun f3 z3 H3 y3 hM3 => es_nil ?_)))))
    refine n_lst y3 (show (3 : Nat) ≤ _ by omega) fun wk H4 y4 => ?_
    show wSs R k _ _ _ [some (.ref b), some (.ref x), some (.int (n : Nat)), c3, some (.ref wk)] H4
    refine q_ret (e_and (e_cmp (e_own (s := s) N.xc N.B Nd.me (by decide +kernel) rfl y4 (by walk_at "mem") (es_nil ?_))))
    refine x_sp Nd.ok ⟨x, s, _, rfl, y4.p1 (A := BenchA C Cd x s) (by walk_at "pk"), e_var rfl (c_eqI (tr_bl (x_dt (decide_eq_true (by rw [e6])) ?_)))⟩
    refine ⟨gz, Nz.mg, Nz.kp, es_cons (e_var rfl (es_cons (e_tup (es_cons (e_str (es_cons (e_int (es_nil ?_))))))))⟩
    refine n_tup y4 (show (2 : Nat) ≤ _ by omega) fun q H5 y5 => es_nil ?_
    have y6 := td_ref y5
    have y7 := y6.p1 (A := BenchA C Cd x s) (by walk_at "pk")
    refine e_allZ (bs := [wk1, wk2, wk3]) (fs := [.ref f1, .ref f2, .ref f3]) (nm := "Stopped") Nz.ok (.inl rfl) (fun t => match t with | 0 => BenchA C Cd x s | _ + 1 => BenchA C Cd x ({ s with stop := true } : Bst)) _ (show (3 : Nat) ≤ 5 by decide) (fun t f hf => ?_) (by walk_at "mem") (by walk_at "mem") y7 (fun t bb H6 Qn En l' hb z hR => ?_) fun H6 z => ?_
    · rcases t with _ | _ | _ | t
      · cases hf
        exact ⟨_, f1, z1, rfl, rfl, hM1, by walk_at "mem"⟩
      · cases hf
        exact ⟨_, f2, z2, rfl, rfl, hM2, by walk_at "mem"⟩
      · cases hf
        exact ⟨_, f3, z3, rfl, rfl, hM3, by walk_at "mem"⟩
      · cases hf
    · rcases t with _ | _ | _ | t
      · cases hb
        obtain ⟨gm, Nm⟩ := N.put
        refine e_own (s := s) N.xc N.B Nm.me (by decide +kernel) rfl z (.head _) ?_
        walk_at "go"
        refine x_sp Nm.ok ⟨x, s, l', 0, 0, 0, 1, rfl, by omega, by decide, by decide, long_row hs (by decide), z, fun H' z2 => ?_⟩
        rw [hd1] at z2 ⊢
        exact hR H' z2
      · cases hb
        obtain ⟨gm, Nm⟩ := N.lay
        refine e_own (s := ({ s with stop := true } : Bst)) N.xc N.B Nm.me (by decide +kernel) rfl z (.head _) ?_
        walk_at "go"
        rename_i qt H7 z2
        have tt : TD H7 (.ref qt) (.tuple []) := TD.tup (SL.get (.head _) z2) rfl fun i v d a _ => by simp at a
        refine x_sp Nm.ok ⟨x, ({ s with stop := true } : Bst), l', 0, .ref qt, .tuple [], rfl, (show 0 < s.disks.length by omega), ⟨by simp [costD, costs], by simp [szB, szAll]⟩, z2.tail.dupF (A := TupA (.ref qt) (.tuple [])) tt.fix, fun H' z3 => ?_⟩
        rw [hd2] at z3 ⊢
        exact hR H' z3
      · cases hb
        obtain ⟨gm, Nm⟩ := N.get
        refine e_own (s := ({ s with stop := true } : Bst)) N.xc N.B Nm.me (by decide +kernel) rfl z (.head _) ?_
        walk_at "go"
        refine x_sp Nm.ok ⟨x, ({ s with stop := true } : Bst), l', 0, 0, 0, rfl, (show 0 < s.disks.length by omega), by decide, z, fun nm e => ?_, fun kd hs2 => by cases hs2⟩
        rw [hg2] at e
        cases e
        exact hR H6 z
      · cases hb
    · refine hq H6 ?_
      have w := SL.p2 (A := tabsOk R.T) (B := BoxA b) z (by walk_at "pk") (by walk_at "pk")
      exact ((((((w.drop (.tl (.tl .hd))).drop (.tl (.tl .hd))).drop (.tl (.tl .hd))).drop (.tl (.tl .hd))).drop (.tl (.tl .hd))).drop (.tl (.tl .hd)))
end

end Zw

set_option Elab.async false
set_option linter.all false
set_option maxRecDepth 100000
set_option maxHeartbeats 4000000
namespace Zw
open PySem PySem.Spec PyProof.Rows L2
local macro_rules | `(tactic| walk_at "mem") => `(tactic| (first | exact List.Mem.head _ | (apply List.Mem.tail; walk_at "mem")))
local macro_rules | `(tactic| walk_at "rp") => `(tactic| (first | exact Rp.hd | (apply Rp.tl; walk_at "rp")))
local macro_rules | `(tactic| walk_at "pk") => `(tactic| (first | exact Pk.hd | (apply Pk.tl; walk_at "pk")))
local macro_rules | `(tactic| walk_at "go1") => `(tactic| with_reducible (first
  | refine q_set ?_ | refine q_exp ?_ | refine q_doc ?_ | refine q_pass ?_ | refine q_ret ?_ | refine q_retN ?_ | refine q_brk ?_ | refine q_cont ?_ | refine q_if ?_ | refine q_par ?_ | refine q_setFld ?_ | refine q_setSub ?_ | refine q_for ?_
  | refine e_int ?_ | refine e_str ?_ | refine e_bl ?_ | refine e_non ?_ | refine e_bin ?_ | refine e_neg ?_ | refine e_nt ?_ | refine e_cmp ?_ | refine e_chain ?_ | refine e_and ?_ | refine e_or ?_ | refine e_ife ?_ | refine e_fld ?_ | refine e_sub ?_ | refine e_tup ?_ | refine e_lst ?_ | refine e_bi ?_ | refine e_meth ?_
  | refine es_nil ?_ | refine es_cons ?_ | refine t_yes ?_ | refine t_nt ?_ | refine t_and ?_ | refine t_or ?_ | refine t_cmp ?_ | refine t_val ?_ | refine i_seq ?_ | refine i_rng ?_
  | refine x_bl ?_ | refine x_in ?_ | refine tr_bl ?_ | refine tr_int ?_ | refine tr_non ?_
  | refine b_add ?_ | refine b_sub ?_ | refine c_lt ?_ | refine c_le ?_ | refine c_gt ?_ | refine c_ge ?_ | refine c_is ?_ | refine c_isnt ?_ | refine i_intB ?_ | refine c_eqI ?_ | refine c_neI ?_ | refine c_eqB ?_ | refine c_neB ?_ | refine c_eqS ?_ | refine q_nil ?_ | refine x_itt ?_ | refine x_iff ?_))
local macro_rules | `(tactic| walk_at "go2") => `(tactic| (first
  | ((with_reducible refine' e_var ?hg ?hh); (case hg => rfl))
  | ((with_reducible refine' s_0 ?hx ?hm ?hg ?hh); (case hx => assumption); (case hm => walk_at "mem"); (case hg => rfl))
  | ((with_reducible refine' s_1 ?hx ?hm ?hg ?hh); (case hx => assumption); (case hm => walk_at "mem"); (case hg => rfl))
  | ((with_reducible refine' s_2 ?hx ?hm ?hg ?hh); (case hx => assumption); (case hm => walk_at "mem"); (case hg => rfl))
  | ((with_reducible refine' p_0 ?hx ?hr ?hb ?hh); (case hx => assumption); (case hr => walk_at "rp"); (case hb => first | (simp; done) | decide); intros)
  | ((with_reducible refine' p_1 ?hx ?hr ?hb ?hh); (case hx => assumption); (case hr => walk_at "rp"); (case hb => first | (simp; done) | decide); intros)
  | ((with_reducible refine' n_lst ?hx ?hb ?hh); (case hx => assumption); (case hb => first | decide | (simp only [List.length_cons, List.length_nil]; decide)); intros)
  | ((with_reducible refine' n_tup ?hx ?hb ?hh); (case hx => assumption); (case hb => first | decide | (simp only [List.length_cons, List.length_nil]; decide)); intros)))
local macro_rules | `(tactic| walk_at "go") => `(tactic| repeat (first | walk_at "go1" | walk_at "go2"))
local macro_rules | `(tactic| walk_at "go2") => `(tactic| (first
  | ((with_reducible refine' e_ty ?hg ?hh); (case hg => rfl))
  | ((with_reducible refine' isi_dp ok_bl ?hx ?hh); (case hx => assumption))
  | ((with_reducible refine' isi_dp ok_int ?hx ?hh); (case hx => assumption))
  | ((with_reducible refine' isi_dp ok_str ?hx ?hh); (case hx => assumption))
  | ((with_reducible refine' isi_dp ok_tup ?hx ?hh); (case hx => assumption))
  | ((with_reducible refine' isi_dp ok_lst ?hx ?hh); (case hx => assumption))
  | ((with_reducible refine' x_dt ?hc ?hh); (case hc => rfl))
  | ((with_reducible refine' x_df ?hc ?hh); (case hc => rfl))))
def sizeD : Option Dk → PyData
  | none => .none
  | some k => .int (k.blocks.length : Nat)
theorem dp_sizes {K : PySem.W.Frag} {H : Hp} : ∀ ds : List (Option Dk), DpAll K H (ds.map sizeV) (ds.map sizeD)
  | [] => .nil
  | none :: r => .cons .non (dp_sizes r)
  | some k :: r => .cons (.int _) (dp_sizes r)
theorem sz_sizes : ∀ ds : List (Option Dk), szAll (ds.map sizeD) = true
  | [] => rfl
  | none :: r => by simp [szAll, szB, sizeD, sz_sizes r]
  | some k :: r => by simp [szAll, szB, sizeD, sz_sizes r]
theorem dep_sizes : ∀ ds : List (Option Dk), PyData.depthAll (ds.map sizeD) = 0
  | [] => rfl
  | none :: r => by simp [PyData.depthAll, PyData.depth, sizeD, dep_sizes r]
  | some k :: r => by simp [PyData.depthAll, PyData.depth, sizeD, dep_sizes r]
def rowD (row : List Nat) : PyData := .list (row.map fun n => .int (n : Nat))
def blocksD (bl : List (List Nat)) : PyData := .list (bl.map rowD)
theorem dp_nums {K : PySem.W.Frag} {H : Hp} : ∀ row : List Nat, DpAll K H (numsV row) (row.map fun n => PyData.int (n : Nat))
  | [] => .nil
  | _ :: r => .cons (.int _) (dp_nums r)
theorem sz_nums : ∀ row : List Nat, szAll (row.map fun n => PyData.int (n : Nat)) = true
  | [] => rfl
  | _ :: r => by simp [szAll, szB, sz_nums r]
theorem dep_nums : ∀ row : List Nat, PyData.depthAll (row.map fun n => PyData.int (n : Nat)) = 0
  | [] => rfl
  | _ :: r => by simp [PyData.depthAll, PyData.depth, dep_nums r]
theorem sz_rows : ∀ {bl : List (List Nat)}, (∀ row ∈ bl, row.length = 4) → szAll (bl.map rowD) = true
  | [], _ => rfl
  | row :: r, h => by
    have sz : (4 : Nat) ≤ sizeLine := by rw [sizeLine_eq]; decide
    have h1 := h row List.mem_cons_self
    simp [szAll, szB, rowD, sz_nums, sz_rows (bl := r) (fun q hq => h q (List.mem_cons_of_mem _ hq)), h1, sz]
theorem dep_rows : ∀ bl : List (List Nat), PyData.depthAll (bl.map rowD) ≤ 1
  | [] => by simp [PyData.depthAll]
  | row :: r => by
    have := dep_rows r
    simp [PyData.depthAll, PyData.depth, rowD, dep_nums]
    omega
theorem row_up {v : V} {row : List Nat} : ∀ h h', Sub h h' → RowA v row h → RowA v row h' := fun h h' s ⟨a, e, q⟩ => ⟨a, e, s _ _ q⟩
theorem all2_up {α β : Type _} {A : α → β → HP} (up : ∀ a b h h', Sub h h' → A a b h → A a b h') : ∀ {xs : List α} {ys : List β} {h : Hp}, All2 A xs ys h → ∀ (i : Nat) a b, xs[i]? = some a → ys[i]? = some b → A a b h
  | xs, ys, h, ⟨hl, y⟩, i, a, b, ha, hb => by
    have : A a b ∈ List.zipWith A xs ys := List.mem_of_getElem? (zip_at ha hb)
    exact SL.up (A := A a b) (fun _ _ => up a b _ _) this y
theorem dp_blocks {K : PySem.W.Frag} {H : Hp} {p : Addr} {vs : List V} {bl : List (List Nat)} {l : List HP} (e : H p = some (.lst vs)) (y : SL (All2 RowA vs bl :: l) H) : Dp K H (.ref p) (blocksD bl) := by
  have hl := All2.len y
  obtain ⟨h, g, s1, s2, d, y1, _⟩ := y
  refine .lst (sq_l e) ?_
  refine dpAll_of (by simpa using hl) fun i v dd hv hd => ?_
  rw [List.getElem?_map] at hd
  obtain ⟨row, hr, rfl⟩ := Option.map_eq_some_iff.mp hd
  obtain ⟨a, rfl, q⟩ := all2_up (A := RowA) (fun a b h h' => row_up (v := a) (row := b) h h') y1 i v row hv hr
  exact .lst (sq_l (s1 _ _ q)) (dp_nums row)
section
variable {R : Rx} {k : Nat} {W : WX} {σ : L2.St} {H : Hp} {Q : VK} {l : List HP}
/-- the sizes that the law's own bench has -/
theorem e_dueS {o p : Addr} {us : List V} {s : Bst} (h6 : σ[6]? = some (some (.ref o))) (hlen : 10 < σ.length) (hok : BstOk2 s) (y : SL (pt o (ownO p s.left s.stop s.done) :: pt p (.lst us) :: All2 ODiskA us s.disks :: l) H)
    (h : ∀ D H', SL (pt D (.lst (s.disks.map sizeV)) :: pt o (ownO p s.left s.stop s.done) :: pt p (.lst us) :: All2 ODiskA us s.disks :: l) H' → Q (.ref D) H') :
    wE R k (.comp (.ife (.cmp (.cmp .IsNot (.var 10) .non)) (.callB .len (.cons (.sub (.var 10) (.str "blocks")) .nil)) .non) (.nm 10) (.seq (.sub (.var 6) (.str "disks"))) .yes [10]) W σ H Q := by
  have sz : (500 : Nat) < sizeLine := by rw [sizeLine_eq]; decide
  have hul : us.length = s.disks.length := All2.len y.tail.tail
  have h6' := hok.2.1
  refine e_comp (i_seq (e_sub (e_var h6 (e_str ?_))))
  refine s_z y (.head _) own_disks ?_
  refine k_lst (fun t acc => (fun _ => acc = (s.disks.map sizeV).take t) :: pt o (ownO p s.left s.stop s.done) :: pt p (.lst us) :: All2 ODiskA us s.disks :: l) (y.add (by simp)) (fun t acc H z => sq_l (SL.get (by walk_at "mem") z)) (fun t acc D H1 v hv ha z => ?_) fun acc D H3 ha z => ?_
  · obtain ⟨hacc, z⟩ := z.swap.fact
    have ht := (List.getElem?_eq_some_iff.mp hv).1
    have ho : s.disks[t]? = some (s.disks[t]'(by omega)) := List.getElem?_eq_getElem (by omega)
    generalize s.disks[t]'(by omega) = od at ho
    have hw : ((wipe σ [10]).set 10 (some v))[10]? = some (some v) := List.getElem?_set_self (by simpa [wipe] using hlen)
    have fin : ∀ H4 w, w = sizeV od → SL (pt D (.lst acc) :: pt o (ownO p s.left s.stop s.done) :: pt p (.lst us) :: All2 ODiskA us s.disks :: l) H4 → CompN D t (fun t acc => (fun _ => acc = (s.disks.map sizeV).take t) :: pt o (ownO p s.left s.stop s.done) :: pt p (.lst us) :: All2 ODiskA us s.disks :: l) w H4 := fun H4 w e z4 =>
      CompN.of ha (by omega) ((z4.add (P := acc ++ [w] = _) (take_next hacc (by rw [List.getElem?_map, ho, e]; rfl))).swap)
    have z1 := All2.open hv ho (z.p1 (A := All2 ODiskA us s.disks) (by walk_at "pk"))
    refine e_ife (t_cmp (e_cmp (e_var hw (e_non (c_isnt (x_bl ?_))))))
    cases od with
    | none =>
      obtain ⟨rfl, _⟩ := ODiskA.no z1
      refine x_df (by simp) (e_non ?_)
      exact fin _ _ rfl z
    | some kd =>
      obtain ⟨a, bv, lv, rfl, z2⟩ := ODiskA.out z1
      obtain ⟨pb, rows, rfl, z3⟩ := BlocksA.out (z2.p1 (A := BlocksA bv kd.blocks) (by walk_at "pk"))
      have hrl : rows.length = kd.blocks.length := All2.len (z3.p1 (by walk_at "pk"))
      refine x_dt (by simp) (e_bi (es_cons (e_sub (e_var hw (e_str ?_)))))
      refine s_z z3 (by walk_at "mem") od_blocks (es_nil ?_)
      refine i_len (len_l (sq_l (SL.get (by walk_at "mem") z3))) ?_
      exact fin _ _ (by rw [hrl]; rfl) z
  · obtain ⟨hacc, z⟩ := z.swap.fact
    rw [List.take_of_length_le (by simp; omega)] at hacc
    subst hacc
    exact h D H3 z
end

end Zw

set_option Elab.async false
set_option linter.all false
set_option maxRecDepth 100000
set_option maxHeartbeats 4000000
namespace Zw
open PySem PySem.Spec PyProof.Rows L2
local macro_rules | `(tactic| walk_at "mem") => `(tactic| (first | exact List.Mem.head _ | (apply List.Mem.tail; walk_at "mem")))
local macro_rules | `(tactic| walk_at "rp") => `(tactic| (first | exact Rp.hd | (apply Rp.tl; walk_at "rp")))
local macro_rules | `(tactic| walk_at "pk") => `(tactic| (first | exact Pk.hd | (apply Pk.tl; walk_at "pk")))
local macro_rules | `(tactic| walk_at "go1") => `(tactic| with_reducible (first
  | refine q_set ?_ | refine q_exp ?_ | refine q_doc ?_ | refine q_pass ?_ | refine q_ret ?_ | refine q_retN ?_ | refine q_brk ?_ | refine q_cont ?_ | refine q_if ?_ | refine q_par ?_ | refine q_setFld ?_ | refine q_setSub ?_ | refine q_for ?_
  | refine e_int ?_ | refine e_str ?_ | refine e_bl ?_ | refine e_non ?_ | refine e_bin ?_ | refine e_neg ?_ | refine e_nt ?_ | refine e_cmp ?_ | refine e_chain ?_ | refine e_and ?_ | refine e_or ?_ | refine e_ife ?_ | refine e_fld ?_ | refine e_sub ?_ | refine e_tup ?_ | refine e_lst ?_ | refine e_bi ?_ | refine e_meth ?_
  | refine es_nil ?_ | refine es_cons ?_ | refine t_yes ?_ | refine t_nt ?_ | refine t_and ?_ | refine t_or ?_ | refine t_cmp ?_ | refine t_val ?_ | refine i_seq ?_ | refine i_rng ?_
  | refine x_bl ?_ | refine x_in ?_ | refine tr_bl ?_ | refine tr_int ?_ | refine tr_non ?_
  | refine b_add ?_ | refine b_sub ?_ | refine c_lt ?_ | refine c_le ?_ | refine c_gt ?_ | refine c_ge ?_ | refine c_is ?_ | refine c_isnt ?_ | refine i_intB ?_ | refine c_eqI ?_ | refine c_neI ?_ | refine c_eqB ?_ | refine c_neB ?_ | refine c_eqS ?_ | refine q_nil ?_ | refine x_itt ?_ | refine x_iff ?_))
local macro_rules | `(tactic| walk_at "go2") => `(tactic| (first
  | ((with_reducible refine' e_var ?hg ?hh); (case hg => rfl))
  | ((with_reducible refine' s_0 ?hx ?hm ?hg ?hh); (case hx => assumption); (case hm => walk_at "mem"); (case hg => rfl))
  | ((with_reducible refine' s_1 ?hx ?hm ?hg ?hh); (case hx => assumption); (case hm => walk_at "mem"); (case hg => rfl))
  | ((with_reducible refine' s_2 ?hx ?hm ?hg ?hh); (case hx => assumption); (case hm => walk_at "mem"); (case hg => rfl))
  | ((with_reducible refine' p_0 ?hx ?hr ?hb ?hh); (case hx => assumption); (case hr => walk_at "rp"); (case hb => first | (simp; done) | decide); intros)
  | ((with_reducible refine' p_1 ?hx ?hr ?hb ?hh); (case hx => assumption); (case hr => walk_at "rp"); (case hb => first | (simp; done) | decide); intros)
  | ((with_reducible refine' n_lst ?hx ?hb ?hh); (case hx => assumption); (case hb => first | decide | (simp only [List.length_cons, List.length_nil]; decide)); intros)
  | ((with_reducible refine' n_tup ?hx ?hb ?hh); (case hx => assumption); (case hb => first | decide | (simp only [List.length_cons, List.length_nil]; decide)); intros)))
local macro_rules | `(tactic| walk_at "go") => `(tactic| repeat (first | walk_at "go1" | walk_at "go2"))
local macro_rules | `(tactic| walk_at "go2") => `(tactic| (first
  | ((with_reducible refine' e_ty ?hg ?hh); (case hg => rfl))
  | ((with_reducible refine' isi_dp ok_bl ?hx ?hh); (case hx => assumption))
  | ((with_reducible refine' isi_dp ok_int ?hx ?hh); (case hx => assumption))
  | ((with_reducible refine' isi_dp ok_str ?hx ?hh); (case hx => assumption))
  | ((with_reducible refine' isi_dp ok_tup ?hx ?hh); (case hx => assumption))
  | ((with_reducible refine' isi_dp ok_lst ?hx ?hh); (case hx => assumption))
  | ((with_reducible refine' x_dt ?hc ?hh); (case hc => rfl))
  | ((with_reducible refine' x_df ?hc ?hh); (case hc => rfl))))
def N_law2 : List Str := ["_law_script", "_law_box", "_law_sizes", "_law_k", "_law_handed", "_law_bench", "_law_own", "_law_size", "_law_turn_here", "_law_due", "_law_disk_here", "_law_found", "_law_there", "_law_blocks", "_law_piece"]
def b_law2 : Ss := (.cons (.set 1 (.call "_law_begun" (.cons (.var 0) .nil)))
  (.cons (.set 2 (.comp (.bin .Add (.int 1) (.call "_law_take" (.cons (.var 1) (.cons (.int 12) .nil)))) (.nm 3) (.rng1 (.bin .Add (.int 1) (.call "_law_take" (.cons (.var 1) (.cons (.int 6) .nil))))) .yes [3]))
  (.cons (.set 4 (.callB .list (.cons (.var 2) .nil)))
  (.cons (.set 5 (.call "Bench" (.cons (.var 4) .nil)))
  (.cons (.exp (.meth (.var 4) "clear" [.clear] .nil))
  (.cons (.set 6 (.dct (.cons (.str "disks") (.cons (.comp (.call "_law_disk" (.cons (.var 7) .nil)) (.nm 7) (.seq (.var 2)) .yes [7]) (.cons (.str "left") (.cons .non (.cons (.str "stands") (.cons (.bl false) (.cons (.str "many") (.cons (.int 0) .nil))))))))))
  (.cons (.fors (.nm 8) (.rng1 (.call "_law_take" (.cons (.var 1) (.cons (.sub (.lst (.cons (.int 20) (.cons (.int 81) .nil))) (.call "_law_take" (.cons (.var 1) (.cons (.int 2) .nil)))) .nil))))
  (.cons (.ifs (.nt (.val (.call "_law_turn" (.cons (.var 1) (.cons (.var 5) (.cons (.var 6) .nil))))))
  (.cons (.ret (.bl false))
  .nil)
  .nil)
  (.cons (.set 9 (.comp (.ife (.cmp (.cmp .IsNot (.var 10) .non)) (.callB .len (.cons (.sub (.var 10) (.str "blocks")) .nil)) .non) (.nm 10) (.seq (.sub (.var 6) (.str "disks"))) .yes [10]))
  (.cons (.set 11 (.meth (.var 5) "sizes" [] .nil))
  (.cons (.ifs (.nt (.val (.call "_law_alike" (.cons (.lst (.cons (.var 11) (.cons (.meth (.var 5) "deeds" [] .nil) .nil))) (.cons (.lst (.cons (.var 9) (.cons (.sub (.var 6) (.str "many")) .nil))) .nil)))))
  (.cons (.ret (.bl false))
  .nil)
  .nil)
  (.cons (.exp (.meth (.var 11) "append" [.append] (.cons (.int 0) .nil)))
  .nil))))))
  (.cons (.ifs (.nt (.val (.call "_law_is_long" (.cons (.var 1) .nil))))
  (.cons (.ret (.bl false))
  .nil)
  .nil)
  (.cons (.exp (.meth (.var 5) "again" [] .nil))
  (.cons (.fors (.nm 10) (.rng1 (.callB .len (.cons (.sub (.var 6) (.str "disks")) .nil)))
  (.cons (.set 12 (.sub (.sub (.var 6) (.str "disks")) (.var 10)))
  (.cons (.ifs (.cmp (.cmp .IsNot (.var 12) .non))
  (.cons (.set 13 (.comp (.comp (.meth (.var 5) "get" [.dget1, .dget2] (.cons (.var 10) (.cons (.var 14) (.cons (.var 3) .nil)))) (.nm 3) (.rng1 (.int 4)) .yes [3]) (.nm 14) (.rng1 (.callB .len (.cons (.sub (.var 12) (.str "blocks")) .nil))) .yes [14]))
  (.cons (.ifs (.nt (.val (.call "_law_alike" (.cons (.lst (.cons (.var 13) (.cons (.meth (.var 5) "sheet" [] (.cons (.var 10) .nil)) .nil))) (.cons (.lst (.cons (.sub (.var 12) (.str "blocks")) (.cons (.sub (.var 12) (.str "sheet")) .nil))) .nil)))))
  (.cons (.ret (.bl false))
  .nil)
  .nil)
  .nil))
  .nil)
  .nil)))
  (.cons (.ret (.bl true))
  .nil)))))))))))
structure WN (R : Rx) (T : List (Addr × Str)) (k : Nat) (C Cd : Addr) (cls : Str → Addr) : Prop where
  xc : R.xc = none
  B : BenchC R.K C
  beg : ∃ f, Has R.toRt k "_law_begun" f (spBegun R.K)
  tak : ∃ f, Has R.toRt k "_law_take" f spTake
  ali : ∃ f, Has R.toRt k "_law_alike" f (spAlike R.K 3)
  bnc : Has R.toRt k "Bench" C (spMake C (spBenchInit C Cd))
  dis : ∃ f, Has R.toRt k "_law_disk" f spODisk
  tur : ∃ f, Has R.toRt k "_law_turn" f (spTurn T C Cd)
  lng : ∃ f, Has R.toRt k "_law_is_long" f (spLong T)
  siz : ∃ g, HasM R.toRt k C "sizes" g (spSizes C Cd)
  dee : ∃ g, HasM R.toRt k C "deeds" g (spDeeds C Cd)
  aga : ∃ g, HasM R.toRt k C "again" g (spAgain C Cd)
  get : ∃ g, HasM R.toRt k C "get" g (spGet C Cd cls)
  she : ∃ g, HasM R.toRt k C "sheet" g (spSheet C Cd cls)
def spLaw2 (K : PySem.W.Frag) (T : List (Addr × Str)) : Sp := fun vs H Q _ => ∃ (a : Addr) (ns : List Int) (l : List HP), vs = [.ref a] ∧ ns.length ≤ sizeLine ∧ SL (tabsOk T :: l) H ∧ (∀ H', SL l H' → SqL K H' a (ns.map V.int)) ∧ ∀ H', Q (.bl true) H'
def DctEnd (Q : VK) (p : Addr) (ps : List (V × V)) (H2 : Hp) : Prop := H2 p = some (.dK []) ∧ ∃ kvs : List (Key × V), ps = kvs.map (fun kv => (kV kv.1, kv.2)) ∧ kvs.length ≤ 15 ∧ Q (.ref p) (upd H2 p (.dK (mergeK [] kvs)))
theorem e_dctE {R : Rx} {k : Nat} {W : WX} {σ : L2.St} {H : Hp} {Q : VK} {l : List HP} {es : Es} (x : SL l H) (h : ∀ p H1, SL (pt p (.dK []) :: l) H1 → tPairs (wPs R k es W) σ H1 fun ps H2 => DctEnd Q p ps H2) : wE R k (.dct es) W σ H Q := e_dctG x h
theorem dct_endE {H : Hp} {Q : VK} {l l' : List HP} {p : Addr} {ps : List (V × V)} (kvs kvs' : List (Key × V)) (hm : mergeK [] kvs = kvs') (hp : ps = kvs.map (fun kv => (kV kv.1, kv.2))) (b : kvs.length ≤ 15) (x : SL l H) (r : Rp (pt p (.dK [])) (pt p (.dK kvs')) l l') (h : ∀ H', SL l' H' → Q (.ref p) H') : DctEnd Q p ps H := dct_end kvs kvs' hm hp b x r h
theorem fresh_bst {ns : List Nat} (h1 : 1 ≤ ns.length) (h6 : ns.length ≤ 6) (hns : ∀ n ∈ ns, 1 ≤ n ∧ n ≤ 12) : BstOk2 (freshB ns) := by
  refine ⟨by simpa [freshB] using h1, by simpa [freshB] using h6, fun i k e => ?_⟩
  simp only [freshB, List.getElem?_map] at e
  obtain ⟨n, hn, e2⟩ := Option.map_eq_some_iff.mp e
  cases e2
  have := hns n (List.mem_of_getElem? hn)
  exact fresh_ok this.1 this.2
section
variable {R : Rx} {k : Nat} {C Cd : Addr} {cls : Str → Addr} {H : Hp} {Q : VK} {X : XK}
theorem w_law2 {vs : List V} {T : List (Addr × Str)} (N : WN R T k C Cd cls) (h : spLaw2 R.K T vs H Q X) :
    wSs R k b_law2 (fun cls d _ H' => X cls d H') { nx := fun _ H' => Q .non H', rt := Q } (L2.start N_law2 vs) H := by
  obtain ⟨a, is, l0, rfl, hl, x0, sq0, hq⟩ := h
  have sz : (500 : Nat) < sizeLine := by rw [sizeLine_eq]; decide
  obtain ⟨fb, Nb⟩ := N.beg
  obtain ⟨ft, Nt⟩ := N.tak
  obtain ⟨fa, Na⟩ := N.ali
  obtain ⟨fd, Nd⟩ := N.dis
  obtain ⟨fu, Nu⟩ := N.tur
  obtain ⟨fl, Nl⟩ := N.lng
  obtain ⟨gs, Ns⟩ := N.siz
  obtain ⟨ge, Ne⟩ := N.dee
  obtain ⟨ga, Ng⟩ := N.aga
  obtain ⟨gg, Ngt⟩ := N.get
  obtain ⟨gh, Nsh⟩ := N.she
  show wSs R k b_law2 _ _ [some (.ref a), none, none, none, none, none, none, none, none, none, none, none, none, none, none] H
  unfold b_law2
  walk_at "go"
  refine e_call Nb.mg Nb.kp ?_
  walk_at "go"
  refine x_sp Nb.ok ⟨a, is, tabsOk T :: l0, rfl, hl, x0, fun H' z => sq0 H' z.tail, fun b H1 x1 => ?_⟩
  have y : SL (BoxA b :: [tabsOk T]) H1 := (SL.perm (l := BoxA b :: tabsOk T :: l0) (l' := l0 ++ [BoxA b, tabsOk T]) (List.perm_append_comm (l₁ := [BoxA b, tabsOk T]) (l₂ := l0)) x1).right
  clear x0 x1
  show wSs R k _ _ _ [some (.ref a), some (.ref b), none, none, none, none, none, none, none, none, none, none, none, none, none] H1
  refine q_set (e_comp (i_rng ?_))
  refine e_bin (e_int (e_call Nt.mg Nt.kp (es_cons (e_var rfl (es_cons (e_int (es_nil ?_)))))))
  refine x_take (m := 6) Nt (by omega) (by omega) y fun H2 n0 hn0 y2 => b_add ?_
  obtain ⟨n, hn, hn1, hn2⟩ : ∃ n : Nat, 1 + (n0 : Int) = (n : Int) ∧ 1 ≤ n ∧ n ≤ 6 := ⟨1 + n0, by omega, by omega, by omega⟩
  rw [hn]
  refine x_in ?_
  refine k_rng' (n := n) (fun t acc => (fun _ => ∃ ns : List Nat, ns.length = t ∧ (∀ n ∈ ns, 1 ≤ n ∧ n ≤ 12) ∧ acc = numsV ns) :: BoxA b :: [tabsOk T]) (by omega) (y2.add ⟨[], rfl, by simp, rfl⟩) (fun t acc D H1 ht ha y => ?_) fun acc D H3 ha y3 => ?_
  · obtain ⟨⟨ns, hl, hb, rfl⟩, y⟩ := y.swap.fact
    refine e_bin (e_int (e_call Nt.mg Nt.kp (es_cons (e_var rfl (es_cons (e_int (es_nil ?_)))))))
    refine x_take (m := 12) Nt (by omega) (by omega) (y.p1 (A := BoxA b) (by walk_at "pk")) fun H4 i hi y4 => b_add ?_
    rw [show 1 + (i : Int) = ((1 + i : Nat) : Int) by omega]
    refine CompN.of ha (by omega) ?_
    have y5 : SL (pt D (.lst (numsV ns)) :: BoxA b :: [tabsOk T]) H4 := y4.swap
    refine (y5.add (P := _) ⟨ns ++ [1 + i], by simp [hl], fun q hq => ?_, by simp [numsV]⟩).swap
    rcases List.mem_append.mp hq with h | h
    · exact hb q h
    · obtain rfl := List.mem_singleton.mp h
      omega
  · obtain ⟨⟨ns, hnl, hb, rfl⟩, y3⟩ := y3.swap.fact
    have h1 : 1 ≤ ns.length := by omega
    have h6 : ns.length ≤ 6 := by omega
    clear y2 y
    walk_at "go"
    refine i_list (sq_l (SL.get (.head _) y3)) (n_o y3 fun ph H4 y4 => ?_)
    walk_at "go"
    refine e_call N.bnc.mg N.bnc.kp ?_
    walk_at "go"
    refine x_sp N.bnc.ok (made_bench h1 h6 hb y4 fun x H5 y5 => ?_)
    walk_at "go"
    refine x_bm .clear (by decide) (ty_l (sq_l (SL.get (p := ph) (by walk_at "mem") y5))) ?_
    walk_at "go"
    refine m_clear y5 (by walk_at "rp") fun H6 y6 => ?_
    have y7 := y6.drop (A := pt ph (.lst [])) (by walk_at "pk")
    clear y6 y5 y4 y3
    walk_at "go"
    refine e_dctE y7 fun o H7 y8 => tp_cons ?_
    refine e_str (e_comp (i_seq (e_var rfl ?_)))
    refine k_lst (fun t acc => All2 ODiskA acc ((ns.take t).map fun n => some (freshDk n)) :: pt o (.dK []) :: BenchA C Cd x (freshB ns) :: pt D (.lst (numsV ns)) :: BoxA b :: [tabsOk T]) (All2.nil y8) (fun t acc H z => sq_l (SL.get (p := D) (by walk_at "mem") z)) (fun t acc D2 H1 v hv ha z => ?_) fun us p H8 ha y9 => ?_
    · unfold numsV at hv
      rw [List.getElem?_map] at hv
      obtain ⟨n, hn, rfl⟩ := Option.map_eq_some_iff.mp hv
      have hbn := hb n (List.mem_of_getElem? hn)
      have ht := (List.getElem?_eq_some_iff.mp hn).1
      refine e_call Nd.mg Nd.kp (es_cons (e_var rfl (es_nil ?_)))
      refine x_sp Nd.ok ⟨n, _, rfl, hbn.2, z, fun q H2 z2 => ?_⟩
      refine CompN.of ha (by omega) ?_
      rw [← take_next (l := ns) (acc := ns.take t) rfl hn, List.map_append]
      exact SL.p1 (A := pt D2 (.lst acc)) (All2.snoc (SL.p2 (A := ODiskA (.ref q) (some (freshDk n))) (B := All2 ODiskA acc ((ns.take t).map fun n => some (freshDk n))) z2 (by walk_at "pk") (by walk_at "pk"))) (by walk_at "pk")
    · rw [List.take_of_length_le (by unfold numsV; simp)] at y9
      refine tp_cons (e_str (e_non (tp_cons (e_str (e_bl (tp_cons (e_str (e_int (tp_nil ?_)))))))))
      refine dct_endE [(.inr "disks", .ref p), (.inr "left", .non), (.inr "stands", .bl false), (.inr "many", .int 0)] _ merge4 rfl (show (4 : Nat) ≤ 15 by decide) y9 (.tl (.tl .hd)) fun H9 ya => ?_
      have yb := OwnA.mk (o := o) (s := freshB ns) (p := p) (vs := us) (SL.p3 (A := pt o (ownO p none false 0)) (B := pt p (.lst us)) (C := All2 ODiskA us (ns.map fun n => some (freshDk n))) ya (by walk_at "pk") (by walk_at "pk") (by walk_at "pk"))
      have yc : SL (tabsOk T :: BoxA b :: BenchA C Cd x (freshB ns) :: OwnA o (freshB ns) :: []) H9 := SL.p4 (yb.drop (A := pt D (.lst (numsV ns))) (by walk_at "pk")) (by walk_at "pk") (by walk_at "pk") (by walk_at "pk") (by walk_at "pk")
      have hok := fresh_bst h1 h6 hb
      clear ya yb y9 y8 y7
      show wSs R k _ _ _ [some (.ref a), some (.ref b), some (.ref D), none, some (.ref ph), some (.ref x), some (.ref o), none, none, none, none, none, none, none, none] H9
      refine q_for (i_rng (e_call Nt.mg Nt.kp (es_cons (e_var rfl (es_cons (e_sub (e_lst (es_cons (e_int (es_cons (e_int (es_nil ?_))))))))))))
      refine n_lst yc (show (2 : Nat) ≤ _ by omega) fun q0 H1 y1 => ?_
      refine e_call Nt.mg Nt.kp (es_cons (e_var rfl (es_cons (e_int (es_nil ?_)))))
      refine x_take (m := 2) Nt (by omega) (by omega) (y1.p1 (A := BoxA b) (by walk_at "pk")) fun H2 i hi y2 => ?_
      obtain ⟨m, hm, hm1, hm2⟩ : ∃ m : Nat, ([V.int 20, V.int 81] : List V)[i]? = some (.int (m : Nat)) ∧ 1 ≤ m ∧ m ≤ 81 := by
        rcases (by omega : i = 0 ∨ i = 1) with rfl | rfl
        · exact ⟨20, rfl, by decide, by decide⟩
        · exact ⟨81, rfl, by decide, by decide⟩
      refine s_at (p := q0) y2 (by walk_at "mem") hm (es_nil ?_)
      refine x_take (m := m) Nt (by omega) (by omega) y2 fun H3 n hn y3 => x_in ?_
      have y4 : SL (tabsOk T :: BoxA b :: BenchA C Cd x (freshB ns) :: OwnA o (freshB ns) :: []) H3 := SL.p4 (y3.drop (A := pt q0 _) (by walk_at "pk")) (by walk_at "pk") (by walk_at "pk") (by walk_at "pk") (by walk_at "pk")
      clear y3 y2 y1 yc
      refine l_rng' (n := n) (fun t σ H => (∃ s, BstOk2 s ∧ SL (tabsOk T :: BoxA b :: BenchA C Cd x s :: OwnA o s :: []) H) ∧ ∃ c2 c3 c4 c7 c8 c9 c10 c11 c12 c13 c14, σ = [some (.ref a), some (.ref b), c2, c3, c4, some (.ref x), some (.ref o), c7, c8, c9, c10, c11, c12, c13, c14]) (by omega)
        ⟨⟨_, hok, y4⟩, _, _, _, _, _, _, _, _, _, _, _, rfl⟩ (fun t σ H ht I => ?_) fun σ H I => ?_
      · obtain ⟨⟨s, hok, y⟩, c2, c3, c4, c7, c8, c9, c10, c11, c12, c13, c14, rfl⟩ := I
        clear y4
        refine q_if (t_nt (t_val (e_call Nu.mg Nu.kp (es_cons (e_var rfl (es_cons (e_var rfl (es_cons (e_var rfl (es_nil ?_))))))))))
        refine x_sp Nu.ok ⟨b, x, o, s, [], rfl, hok, y, fun H1 s1 hok1 y1 => tr_bl (x_iff ?_)⟩
        obtain ⟨p, us, y2⟩ := OwnA.out (y1.p1 (A := OwnA o s1) (by walk_at "pk"))
        walk_at "go"
        refine e_dueS rfl (by simp) hok1 y2 fun D9 H2 y3 => ?_
        refine q_set (e_own (s := s1) N.xc N.B Ns.me (by decide +kernel) rfl y3 (by walk_at "mem") (es_nil ?_))
        refine x_sp Ns.ok ⟨x, s1, _, rfl, hok1.2.1, y3.p1 (A := BenchA C Cd x s1) (by walk_at "pk"), fun q H3 y4 => ?_⟩
        refine q_if (t_nt (t_val (e_call Na.mg Na.kp (es_cons (e_lst (es_cons (e_var rfl (es_cons (e_own (s := s1) N.xc N.B Ne.me (by decide +kernel) rfl y4 (by walk_at "mem") (es_nil ?_))))))))))
        refine x_sp Ne.ok ⟨x, s1, _, rfl, y4.p1 (A := BenchA C Cd x s1) (by walk_at "pk"), es_nil ?_⟩
        refine n_lst y4 (show (2 : Nat) ≤ _ by omega) fun q1 H4 y5 => ?_
        refine es_cons (e_lst (es_cons (e_var rfl (es_cons (e_sub (e_var rfl (e_str ?_)))))))
        refine s_z y5 (by walk_at "mem") own_many (es_nil ?_)
        refine n_lst y5 (show (2 : Nat) ≤ _ by omega) fun q2 H5 y6 => es_nil ?_
        have hdl : (s1.disks.map sizeD).length ≤ sizeLine := by rw [List.length_map]; have := hok1.2.1; omega
        have dz : szB (.list (s1.disks.map sizeD)) = true := by
          unfold szB
          rw [sz_sizes, Bool.and_true]
          exact decide_eq_true hdl
        have dd : (PyData.list (s1.disks.map sizeD)).depth ≤ 2 := by simp [PyData.depth, dep_sizes]
        refine x_sp Na.ok ⟨_, _, .list [.list (s1.disks.map sizeD), .int (s1.done : Nat)], .list [.list (s1.disks.map sizeD), .int (s1.done : Nat)], rfl, .lst (sq_l (SL.get (p := q1) (by walk_at "mem") y6)) (.cons (.lst (sq_l (SL.get (p := q) (by walk_at "mem") y6)) (dp_sizes _)) (.cons (.int _) .nil)),
          .lst (sq_l (SL.get (p := q2) (by walk_at "mem") y6)) (.cons (.lst (sq_l (SL.get (p := D9) (by walk_at "mem") y6)) (dp_sizes _)) (.cons (.int _) .nil)), two_sz dz rfl, two_dep dd (by simp [PyData.depth]), fun bb hb => ?_⟩
        obtain rfl : bb = true := hb.mpr rfl
        refine tr_bl (x_iff ?_)
        walk_at "go"
        refine x_bm .append (by decide) (ty_l (sq_l (SL.get (p := q) (by walk_at "mem") y6))) (es_cons (e_int (es_nil ?_)))
        refine m_app (p := q) (xs := s1.disks.map sizeV) y6 (by walk_at "rp") (by have := hok1.2.1; rw [List.length_map]; omega) fun H6 y7 => ?_
        walk_at "go"
        have y8 := OwnA.mk (o := o) (s := s1) (p := p) (vs := us) (SL.p3 (A := pt o (ownO p s1.left s1.stop s1.done)) (B := pt p (.lst us)) (C := All2 ODiskA us s1.disks) y7 (by walk_at "pk") (by walk_at "pk") (by walk_at "pk"))
        refine ⟨⟨s1, hok1, ?_⟩, _, _, _, _, _, _, _, _, _, _, _, rfl⟩
        exact SL.p4 (((((y8.drop (A := pt q _) (by walk_at "pk")).drop (A := pt q1 _) (by walk_at "pk")).drop (A := pt q2 _) (by walk_at "pk")).drop (A := pt D9 _) (by walk_at "pk"))) (by walk_at "pk") (by walk_at "pk") (by walk_at "pk") (by walk_at "pk")
      · obtain ⟨⟨s, hok, y⟩, c2, c3, c4, c7, c8, c9, c10, c11, c12, c13, c14, rfl⟩ := I
        clear y4
        refine q_if (t_nt (t_val (e_call Nl.mg Nl.kp (es_cons (e_var rfl (es_nil ?_))))))
        refine x_sp Nl.ok ⟨b, _, rfl, y, fun H1 y1 => tr_bl (x_iff ?_)⟩
        refine q_nil ?_
        refine q_exp (e_own (s := s) N.xc N.B Ng.me (by decide +kernel) rfl y1 (by walk_at "mem") (es_nil ?_))
        refine x_sp Ng.ok ⟨x, s, _, rfl, y1.p1 (A := BenchA C Cd x s) (by walk_at "pk"), fun H2 y2 => ?_⟩
        have y3 : SL (OwnA o s :: BenchA C Cd x ({ s with stop := false, left := none } : Bst) :: []) H2 := SL.p2 ((y2.drop (A := tabsOk T) (by walk_at "pk")).drop (A := BoxA b) (by walk_at "pk")) (by walk_at "pk") (by walk_at "pk")
        clear y2 y1 y
        obtain ⟨p0, us0, y4⟩ := OwnA.out y3
        have hul0 : us0.length = s.disks.length := All2.len y4.tail.tail
        refine q_for (i_rng (e_bi (es_cons (e_sub (e_var rfl (e_str (s_z y4 (by walk_at "mem") own_disks (es_nil ?_))))))))
        refine i_len (len_l (sq_l (SL.get (p := p0) (by walk_at "mem") y4))) (x_in ?_)
        have h6 := hok.2.1
        clear y4
        refine l_rng' (n := us0.length) (fun t σ H => SL (OwnA o s :: BenchA C Cd x ({ s with stop := false, left := none } : Bst) :: []) H ∧ ∃ c0 c1 c2 c3 c4 c7 c8 c9 c10 c11 c12 c13 c14, σ = [c0, c1, c2, c3, c4, some (.ref x), some (.ref o), c7, c8, c9, c10, c11, c12, c13, c14]) (by omega)
          ⟨y3, _, _, _, _, _, _, _, _, _, _, _, _, _, rfl⟩ (fun t σ H ht I => ?_) fun σ H I => ?_
        · obtain ⟨y, c0, c1, c2, c3, c4, c7, c8, c9, c10, c11, c12, c13, c14, rfl⟩ := I
          clear y3
          obtain ⟨p, us, y1⟩ := OwnA.out y
          have hd : t < s.disks.length := by omega
          have e := List.getElem?_eq_getElem hd
          obtain ⟨v, hv1, hv2, hv3⟩ := odisk_at (y1.p1 (A := All2 ODiskA us s.disks) (by walk_at "pk")) e
          refine q_set (e_sub (e_sub (e_var rfl (e_str (s_z y1 (by walk_at "mem") own_disks (e_var rfl ?_))))))
          refine s_at y1 (by walk_at "mem") hv1 ?_
          show wSs R k _ _ _ [c0, c1, c2, c3, c4, some (.ref x), some (.ref o), c7, c8, c9, some (.int (t : Nat)), c11, some v, c13, c14] H
          refine q_if (t_cmp (e_cmp (e_var rfl (e_non (c_isnt (x_bl ?_))))))
          cases ho : s.disks[t] with
          | none =>
            obtain rfl := hv2 ho
            refine x_df (by simp) ?_
            walk_at "go"
            exact ⟨y, _, _, _, _, _, _, _, _, _, _, _, _, _, rfl⟩
          | some kd =>
            obtain ⟨a2, rfl⟩ := hv3 kd ho
            have hk : s.disks[t]? = some (some kd) := by rw [e, ho]
            have hdk := hok.2.2 t kd hk
            have hb12 := hdk.1.2.1
            have hg : goneB ({ s with stop := false, left := none } : Bst) t = none := by unfold goneB; rw [if_neg Bool.false_ne_true, hk]
            refine x_dt (by simp) ?_
            obtain ⟨a3, bv, lv, ea, z2⟩ := ODiskA.out (All2.open hv1 hk (y1.p1 (A := All2 ODiskA us s.disks) (by walk_at "pk")))
            cases ea
            obtain ⟨pb, rows, rfl, z3⟩ := BlocksA.out (z2.p1 (A := BlocksA bv kd.blocks) (by walk_at "pk"))
            have hrl : rows.length = kd.blocks.length := All2.len (z3.p1 (by walk_at "pk"))
            have z4 : SL (pt pb (.lst rows) :: All2 RowA rows kd.blocks :: pt a2 (.dK [(.inr "blocks", .ref pb), (.inr "sheet", lv)]) :: TupA lv kd.laid :: Hole ODiskA us s.disks t :: pt o (ownO p s.left s.stop s.done) :: pt p (.lst us) :: BenchA C Cd x ({ s with stop := false, left := none } : Bst) :: []) H := SL.p7 z3 (by walk_at "pk") (by walk_at "pk") (by walk_at "pk") (by walk_at "pk") (by walk_at "pk") (by walk_at "pk") (by walk_at "pk")
            clear z3 z2 y1 y
            generalize hB : (pt pb (.lst rows) :: All2 RowA rows kd.blocks :: pt a2 (.dK [(.inr "blocks", .ref pb), (.inr "sheet", lv)]) :: TupA lv kd.laid :: Hole ODiskA us s.disks t :: pt o (ownO p s.left s.stop s.done) :: pt p (.lst us) :: BenchA C Cd x ({ s with stop := false, left := none } : Bst) :: [] : List HP) = base at z4
            have mB : BenchA C Cd x ({ s with stop := false, left := none } : Bst) ∈ base := by rw [← hB]; walk_at "mem"
            have mp : pt pb (.lst rows) ∈ base := by rw [← hB]; walk_at "mem"
            have ma : pt a2 (.dK [(.inr "blocks", .ref pb), (.inr "sheet", lv)]) ∈ base := by rw [← hB]; walk_at "mem"
            obtain ⟨rB, pB⟩ : ∃ r, Pk (BenchA C Cd x ({ s with stop := false, left := none } : Bst)) base r := by rw [← hB]; exact ⟨_, by walk_at "pk"⟩
            refine q_set (e_comp (i_rng (e_bi (es_cons (e_sub (e_var rfl (e_str (s_z z4 ma od_blocks (es_nil ?_)))))))))
            refine i_len (len_l (sq_l (SL.get mp z4))) ?_
            rw [hrl]
            refine x_in ?_
            refine k_rng' (n := kd.blocks.length) (fun t' acc => All2 RowA acc (kd.blocks.take t') :: base) (by omega) (All2.nil z4) (fun t' acc D1 H3 ht' ha z => ?_) fun acc D1 H3 ha z => ?_
            · have hrw := List.getElem?_eq_getElem ht'
              have hr4 := hdk.1.2.2 _ (List.getElem_mem ht')
              generalize kd.blocks[t'] = row at hrw hr4
              refine e_comp (i_rng (e_int (x_in ?_)))
              refine k_rng' (n := 4) (fun t2 acc2 => (fun _ => acc2 = (numsV row).take t2) :: pt D1 (.lst acc) :: All2 RowA acc (kd.blocks.take t') :: base) (by omega) (z.add (by simp)) (fun t2 acc2 D2 H4 ht2 ha2 z5 => ?_) fun acc2 D2 H4 ha2 z5 => ?_
              · obtain ⟨hacc, z6⟩ := z5.swap.fact
                have hn : row[t2]? = some (row[t2]'(by omega)) := List.getElem?_eq_getElem (by omega)
                refine e_own (s := ({ s with stop := false, left := none } : Bst)) N.xc N.B Ngt.me (by decide +kernel) rfl z6 (.tail _ (.tail _ (.tail _ mB))) (es_cons (e_var rfl (es_cons (e_var rfl (es_cons (e_var rfl (es_nil ?_)))))))
                refine x_sp Ngt.ok ⟨x, ({ s with stop := false, left := none } : Bst), _, t, t', t2, rfl, hd, ht2, z6.pk (.tl (.tl (.tl pB))), fun nm en => ?_, fun kd' _ hk' => ?_⟩
                · rw [hg] at en
                  cases en
                · have : kd' = kd := by
                    have hk' : s.disks[t]? = some (some kd') := hk'
                    rw [hk] at hk'
                    cases hk'
                    rfl
                  subst this
                  refine ⟨row, _, hrw, hn, ?_⟩
                  refine CompN.of ha2 (by omega) ((z6.add (P := acc2 ++ [_] = _) (take_next hacc ?_)).swap)
                  unfold numsV
                  rw [List.getElem?_map, hn]
                  rfl
              · obtain ⟨hacc, z6⟩ := z5.swap.fact
                rw [List.take_of_length_le (by unfold numsV; simp; omega)] at hacc
                subst hacc
                refine CompN.of ha (by omega) ?_
                rw [← take_next (l := kd.blocks) (acc := kd.blocks.take t') rfl hrw]
                exact (All2.snoc (SL.p2 (A := RowA (.ref D2) row) (B := All2 RowA acc (kd.blocks.take t')) (RowA.mk z6) (.hd) (.tl .hd))).swap
            · rw [List.take_of_length_le (Nat.le_refl _)] at z
              obtain ⟨r2, p2⟩ : ∃ r, Pk (All2 RowA rows kd.blocks) base r := by rw [← hB]; exact ⟨_, by walk_at "pk"⟩
              have mT : TupA lv kd.laid ∈ base := by rw [← hB]; walk_at "mem"
              show wSs R k _ _ _ [c0, c1, c2, c3, c4, some (.ref x), some (.ref o), c7, c8, c9, some (.int (t : Nat)), c11, some (.ref a2), some (.ref D1), c14] H3
              refine q_if (t_nt (t_val (e_call Na.mg Na.kp (es_cons (e_lst (es_cons (e_var rfl (es_cons ?_))))))))
              refine e_own (s := ({ s with stop := false, left := none } : Bst)) N.xc N.B Nsh.me (by decide +kernel) rfl z (.tail _ (.tail _ mB)) (es_cons (e_var rfl (es_nil ?_)))
              refine x_sp Nsh.ok ⟨x, ({ s with stop := false, left := none } : Bst), _, t, rfl, hd, z.pk (.tl (.tl pB)), fun nm en => ?_, fun kd' _ hk' => ?_⟩
              · rw [hg] at en
                cases en
              · have : kd' = kd := by
                  have hk' : s.disks[t]? = some (some kd') := hk'
                  rw [hk] at hk'
                  cases hk'
                  rfl
                subst this
                refine ⟨hdk.2.1, fun v H5 z5 => es_nil ?_⟩
                have z6 : SL (TupA v kd'.laid :: pt D1 (.lst acc) :: All2 RowA acc kd'.blocks :: base) H5 := z5.perm (.cons _ (((List.Perm.swap _ _ _).trans ((List.Perm.swap _ _ _).cons _)).trans ((pB.perm.symm.cons _).cons _)))
                refine n_lst z6 (show (2 : Nat) ≤ _ by omega) fun q1 H6 z7 => ?_
                refine es_cons (e_lst (es_cons (e_sub (e_var rfl (e_str ?_)))))
                refine s_z z7 (.tail _ (.tail _ (.tail _ (.tail _ ma)))) od_blocks (es_cons (e_sub (e_var rfl (e_str ?_))))
                refine s_z z7 (.tail _ (.tail _ (.tail _ (.tail _ ma)))) od_sheet (es_nil ?_)
                refine n_lst z7 (show (2 : Nat) ≤ _ by omega) fun q2 H7 z8 => es_nil ?_
                have d1 : Dp R.K H7 (.ref D1) (blocksD kd'.blocks) := dp_blocks (SL.get (p := D1) (by walk_at "mem") z8) (z8.pk (.tl (.tl (.tl (.tl .hd)))))
                have d2 : Dp R.K H7 (.ref pb) (blocksD kd'.blocks) := dp_blocks (SL.get (p := pb) (.tail _ (.tail _ (.tail _ (.tail _ (.tail _ mp))))) z8) (z8.pk (.tl (.tl (.tl (.tl (.tl p2))))))
                have d3 : TD H7 v kd'.laid := SL.td (.tail _ (.tail _ (.head _))) z8
                have d4 : TD H7 lv kd'.laid := SL.td (.tail _ (.tail _ (.tail _ (.tail _ (.tail _ mT))))) z8
                have bz : szB (blocksD kd'.blocks) = true := by
                  unfold blocksD szB
                  rw [sz_rows hdk.1.2.2, Bool.and_true, List.length_map]
                  exact decide_eq_true (by omega)
                have bd : (blocksD kd'.blocks).depth ≤ 2 := by
                  have := dep_rows kd'.blocks
                  simp only [blocksD, PyData.depth]
                  omega
                refine x_sp Na.ok ⟨_, _, .list [blocksD kd'.blocks, kd'.laid], .list [blocksD kd'.blocks, kd'.laid], rfl, .lst (sq_l (SL.get (p := q1) (by walk_at "mem") z8)) (.cons d1 (.cons d3.dp .nil)), .lst (sq_l (SL.get (p := q2) (by walk_at "mem") z8)) (.cons d2 (.cons d4.dp .nil)), two_sz bz hdk.2.1.2, two_dep bd hdk.2.2, fun bb hb => ?_⟩
                obtain rfl : bb = true := hb.mpr rfl
                refine tr_bl (x_iff ?_)
                walk_at "go"
                have z9 : SL base H7 := z8.tail.tail.tail.tail.tail
                rw [← hB] at z9
                refine ⟨?_, _, _, _, _, _, _, _, _, _, _, _, _, _, rfl⟩
                have za := own_put (o := o) (p := p) (s := s) (d := t) (k' := kd') (bv := .ref pb) (lv := lv) (lf := s.left) (st := s.stop) (dn := s.done) hv1 (SL.p6 (A := BlocksA (.ref pb) kd'.blocks) (B := TupA lv kd'.laid) (C := pt a2 (.dK [(.inr "blocks", .ref pb), (.inr "sheet", lv)])) (D := Hole ODiskA us s.disks t) (E := pt o (ownO p s.left s.stop s.done)) (F := pt p (.lst us)) (BlocksA.mk z9) (by walk_at "pk") (by walk_at "pk") (by walk_at "pk") (by walk_at "pk") (by walk_at "pk") (by walk_at "pk"))
                rw [set_same hk] at za
                exact za
        · obtain ⟨y, c0, c1, c2, c3, c4, c7, c8, c9, c10, c11, c12, c13, c14, rfl⟩ := I
          exact q_ret (e_bl (hq _))
end

end Zw

set_option Elab.async false
set_option linter.all false
set_option maxRecDepth 100000
set_option maxHeartbeats 4000000
namespace Zw
open PySem PySem.Spec PyProof.Rows L2
local macro_rules | `(tactic| walk_at "mem") => `(tactic| (first | exact List.Mem.head _ | (apply List.Mem.tail; walk_at "mem")))
local macro_rules | `(tactic| walk_at "rp") => `(tactic| (first | exact Rp.hd | (apply Rp.tl; walk_at "rp")))
local macro_rules | `(tactic| walk_at "pk") => `(tactic| (first | exact Pk.hd | (apply Pk.tl; walk_at "pk")))
local macro_rules | `(tactic| walk_at "go1") => `(tactic| with_reducible (first
  | refine q_set ?_ | refine q_exp ?_ | refine q_doc ?_ | refine q_pass ?_ | refine q_ret ?_ | refine q_retN ?_ | refine q_brk ?_ | refine q_cont ?_ | refine q_if ?_ | refine q_par ?_ | refine q_setFld ?_ | refine q_setSub ?_ | refine q_for ?_
  | refine e_int ?_ | refine e_str ?_ | refine e_bl ?_ | refine e_non ?_ | refine e_bin ?_ | refine e_neg ?_ | refine e_nt ?_ | refine e_cmp ?_ | refine e_chain ?_ | refine e_and ?_ | refine e_or ?_ | refine e_ife ?_ | refine e_fld ?_ | refine e_sub ?_ | refine e_tup ?_ | refine e_lst ?_ | refine e_bi ?_ | refine e_meth ?_
  | refine es_nil ?_ | refine es_cons ?_ | refine t_yes ?_ | refine t_nt ?_ | refine t_and ?_ | refine t_or ?_ | refine t_cmp ?_ | refine t_val ?_ | refine i_seq ?_ | refine i_rng ?_
  | refine x_bl ?_ | refine x_in ?_ | refine tr_bl ?_ | refine tr_int ?_ | refine tr_non ?_
  | refine b_add ?_ | refine b_sub ?_ | refine c_lt ?_ | refine c_le ?_ | refine c_gt ?_ | refine c_ge ?_ | refine c_is ?_ | refine c_isnt ?_ | refine i_intB ?_ | refine c_eqI ?_ | refine c_neI ?_ | refine c_eqB ?_ | refine c_neB ?_ | refine c_eqS ?_ | refine q_nil ?_ | refine x_itt ?_ | refine x_iff ?_))
local macro_rules | `(tactic| walk_at "go2") => `(tactic| (first
  | ((with_reducible refine' e_var ?hg ?hh); (case hg => rfl))
  | ((with_reducible refine' s_0 ?hx ?hm ?hg ?hh); (case hx => assumption); (case hm => walk_at "mem"); (case hg => rfl))
  | ((with_reducible refine' s_1 ?hx ?hm ?hg ?hh); (case hx => assumption); (case hm => walk_at "mem"); (case hg => rfl))
  | ((with_reducible refine' s_2 ?hx ?hm ?hg ?hh); (case hx => assumption); (case hm => walk_at "mem"); (case hg => rfl))
  | ((with_reducible refine' p_0 ?hx ?hr ?hb ?hh); (case hx => assumption); (case hr => walk_at "rp"); (case hb => first | (simp; done) | decide); intros)
  | ((with_reducible refine' p_1 ?hx ?hr ?hb ?hh); (case hx => assumption); (case hr => walk_at "rp"); (case hb => first | (simp; done) | decide); intros)
  | ((with_reducible refine' n_lst ?hx ?hb ?hh); (case hx => assumption); (case hb => first | decide | (simp only [List.length_cons, List.length_nil]; decide)); intros)
  | ((with_reducible refine' n_tup ?hx ?hb ?hh); (case hx => assumption); (case hb => first | decide | (simp only [List.length_cons, List.length_nil]; decide)); intros)))
local macro_rules | `(tactic| walk_at "go") => `(tactic| repeat (first | walk_at "go1" | walk_at "go2"))
local macro_rules | `(tactic| walk_at "go2") => `(tactic| (first
  | ((with_reducible refine' e_ty ?hg ?hh); (case hg => rfl))
  | ((with_reducible refine' isi_dp ok_bl ?hx ?hh); (case hx => assumption))
  | ((with_reducible refine' isi_dp ok_int ?hx ?hh); (case hx => assumption))
  | ((with_reducible refine' isi_dp ok_str ?hx ?hh); (case hx => assumption))
  | ((with_reducible refine' isi_dp ok_tup ?hx ?hh); (case hx => assumption))
  | ((with_reducible refine' isi_dp ok_lst ?hx ?hh); (case hx => assumption))
  | ((with_reducible refine' x_dt ?hc ?hh); (case hc => rfl))
  | ((with_reducible refine' x_df ?hc ?hh); (case hc => rfl))))
def top2 (i : Nat) : Stmt := PySem.Challenge.pw_volumehall_k02_benches.main.body.getD i (.Pass ⟨0, 0, 0, 0⟩)
def inClass (s : Stmt) (j : Nat) : Stmt := match s with | .ClassDef _ _ _ body _ _ _ _ _ _ _ => body.getD j (.Pass ⟨0, 0, 0, 0⟩) | _ => s
theorem c2_is_number : cSs N_is_number 60 .no (defScope (top2 13)) (defBody (top2 13)) = some b_is_number := by kernel_rfl
theorem s2_is_number : scopeB N_is_number ["thing", "least", "most"] (defScope (top2 13)) = true := by decide +kernel
theorem c2_copied : cSs N_copied 60 .no (defScope (top2 14)) (defBody (top2 14)) = some b_copied := by kernel_rfl
theorem s2_copied : scopeB N_copied ["thing"] (defScope (top2 14)) = true := by decide +kernel
theorem c2_Disk_init : cSs N_Disk_init 60 .no (defScope (inClass (top2 21) 0)) (defBody (inClass (top2 21) 0)) = some b_Disk_init := by kernel_rfl
theorem s2_Disk_init : scopeB N_Disk_init ["self", "pieces"] (defScope (inClass (top2 21) 0)) = true := by decide +kernel
theorem c2_check_pieces : cSs N_check_pieces 60 .no (defScope (top2 22)) (defBody (top2 22)) = some b_check_pieces := by kernel_rfl
theorem s2_check_pieces : scopeB N_check_pieces ["pieces"] (defScope (top2 22)) = true := by decide +kernel
theorem c2_check_block : cSs N_check_block 60 .no (defScope (top2 23)) (defBody (top2 23)) = some b_check_block := by kernel_rfl
theorem s2_check_block : scopeB N_check_block ["found", "piece", "block"] (defScope (top2 23)) = true := by decide +kernel
theorem c2_Bench_init : cSs N_Bench_init 60 .no (defScope (inClass (top2 24) 0)) (defBody (inClass (top2 24) 0)) = some b_Bench_init := by kernel_rfl
theorem s2_Bench_init : scopeB N_Bench_init ["self", "sizes"] (defScope (inClass (top2 24) 0)) = true := by decide +kernel
theorem c2_Bench_check_going : cSs N_Bench_check_going 60 .no (defScope (inClass (top2 24) 1)) (defBody (inClass (top2 24) 1)) = some b_Bench_check_going := by kernel_rfl
theorem s2_Bench_check_going : scopeB N_Bench_check_going ["self"] (defScope (inClass (top2 24) 1)) = true := by decide +kernel
theorem c2_Bench_is_place : cSs N_Bench_is_place 60 .no (defScope (inClass (top2 24) 2)) (defBody (inClass (top2 24) 2)) = some b_Bench_is_place := by kernel_rfl
theorem s2_Bench_is_place : scopeB N_Bench_is_place ["self", "disk"] (defScope (inClass (top2 24) 2)) = true := by decide +kernel
theorem c2_Bench_found : cSs N_Bench_found 60 .no (defScope (inClass (top2 24) 3)) (defBody (inClass (top2 24) 3)) = some b_Bench_found := by kernel_rfl
theorem s2_Bench_found : scopeB N_Bench_found ["self", "disk"] (defScope (inClass (top2 24) 3)) = true := by decide +kernel
theorem c2_Bench_begin_deed : cSs N_Bench_begin_deed 60 .no (defScope (inClass (top2 24) 4)) (defBody (inClass (top2 24) 4)) = some b_Bench_begin_deed := by kernel_rfl
theorem s2_Bench_begin_deed : scopeB N_Bench_begin_deed ["self"] (defScope (inClass (top2 24) 4)) = true := by decide +kernel
theorem c2_Bench_get : cSs N_Bench_get 60 .no (defScope (inClass (top2 24) 5)) (defBody (inClass (top2 24) 5)) = some b_Bench_get := by kernel_rfl
theorem s2_Bench_get : scopeB N_Bench_get ["self", "disk", "piece", "block"] (defScope (inClass (top2 24) 5)) = true := by decide +kernel
theorem c2_Bench_put : cSs N_Bench_put 60 .no (defScope (inClass (top2 24) 6)) (defBody (inClass (top2 24) 6)) = some b_Bench_put := by kernel_rfl
theorem s2_Bench_put : scopeB N_Bench_put ["self", "disk", "piece", "block", "number"] (defScope (inClass (top2 24) 6)) = true := by decide +kernel
theorem c2_Bench_sheet : cSs N_Bench_sheet 60 .no (defScope (inClass (top2 24) 7)) (defBody (inClass (top2 24) 7)) = some b_Bench_sheet := by kernel_rfl
theorem s2_Bench_sheet : scopeB N_Bench_sheet ["self", "disk"] (defScope (inClass (top2 24) 7)) = true := by decide +kernel
theorem c2_Bench_lay : cSs N_Bench_lay 60 .no (defScope (inClass (top2 24) 8)) (defBody (inClass (top2 24) 8)) = some b_Bench_lay := by kernel_rfl
theorem s2_Bench_lay : scopeB N_Bench_lay ["self", "disk", "sheet"] (defScope (inClass (top2 24) 8)) = true := by decide +kernel
theorem c2_Bench_lose : cSs N_Bench_lose 60 .no (defScope (inClass (top2 24) 9)) (defBody (inClass (top2 24) 9)) = some b_Bench_lose := by kernel_rfl
theorem s2_Bench_lose : scopeB N_Bench_lose ["self", "disk"] (defScope (inClass (top2 24) 9)) = true := by decide +kernel
theorem c2_Bench_bring : cSs N_Bench_bring 60 .no (defScope (inClass (top2 24) 10)) (defBody (inClass (top2 24) 10)) = some b_Bench_bring := by kernel_rfl
theorem s2_Bench_bring : scopeB N_Bench_bring ["self", "disk", "pieces"] (defScope (inClass (top2 24) 10)) = true := by decide +kernel
theorem c2_Bench_sizes : cSs N_Bench_sizes 60 .no (defScope (inClass (top2 24) 11)) (defBody (inClass (top2 24) 11)) = some b_Bench_sizes := by kernel_rfl
theorem s2_Bench_sizes : scopeB N_Bench_sizes ["self"] (defScope (inClass (top2 24) 11)) = true := by decide +kernel
theorem c2_Bench_deeds : cSs N_Bench_deeds 60 .no (defScope (inClass (top2 24) 12)) (defBody (inClass (top2 24) 12)) = some b_Bench_deeds := by kernel_rfl
theorem s2_Bench_deeds : scopeB N_Bench_deeds ["self"] (defScope (inClass (top2 24) 12)) = true := by decide +kernel
theorem c2_Bench_arm : cSs N_Bench_arm 60 .no (defScope (inClass (top2 24) 13)) (defBody (inClass (top2 24) 13)) = some b_Bench_arm := by kernel_rfl
theorem s2_Bench_arm : scopeB N_Bench_arm ["self", "count"] (defScope (inClass (top2 24) 13)) = true := by decide +kernel
theorem c2_Bench_again : cSs N_Bench_again 60 .no (defScope (inClass (top2 24) 14)) (defBody (inClass (top2 24) 14)) = some b_Bench_again := by kernel_rfl
theorem s2_Bench_again : scopeB N_Bench_again ["self"] (defScope (inClass (top2 24) 14)) = true := by decide +kernel
theorem c2_begun : cSs N_begun 60 .no (defScope (top2 26)) (defBody (top2 26)) = some b_begun := by kernel_rfl
theorem s2_begun : scopeB N_begun ["_law_script"] (defScope (top2 26)) = true := by decide +kernel
theorem c2_take : cSs N_take 60 .no (defScope (top2 27)) (defBody (top2 27)) = some b_take := by kernel_rfl
theorem s2_take : scopeB N_take ["_law_box", "_law_many"] (defScope (top2 27)) = true := by decide +kernel
theorem c2_alike : cSs N_alike 60 .no (defScope (top2 28)) (defBody (top2 28)) = some b_alike := by kernel_rfl
theorem s2_alike : scopeB N_alike ["_law_found", "_law_due"] (defScope (top2 28)) = true := by decide +kernel
theorem c2_told : cSs N_told 60 .no (defScope (top2 29)) (defBody (top2 29)) = some b_told := by kernel_rfl
theorem s2_told : scopeB N_told ["_law_work"] (defScope (top2 29)) = true := by decide +kernel
theorem c2_all : cSs N_allT 60 .no (defScope (top2 30)) (defBody (top2 30)) = some b_allT := by kernel_rfl
theorem s2_all : scopeB N_allT ["_law_works", "_law_due"] (defScope (top2 30)) = true := by decide +kernel
theorem c2_deed : cSs N_deed 60 .no (defScope (top2 31)) (defBody (top2 31)) = some b_deed := by kernel_rfl
theorem s2_deed : scopeB N_deed ["_law_own", "_law_disk_here"] (defScope (top2 31)) = true := by decide +kernel
theorem c2_disk : cSs N_disk 60 .no (defScope (top2 32)) (defBody (top2 32)) = some b_disk := by kernel_rfl
theorem s2_disk : scopeB N_disk ["_law_size"] (defScope (top2 32)) = true := by decide +kernel
theorem c2_comes : cSs N_comes 60 .lam (defScope (top2 33)) (defBody (top2 33)) = some b_comes := by kernel_rfl
theorem s2_comes : scopeB N_comes ["_law_box", "_law_bench", "_law_own", "_law_disk_here", "_law_way"] (defScope (top2 33)) = true := by decide +kernel
theorem c2_turn : cSs N_turn 60 .lam (defScope (top2 34)) (defBody (top2 34)) = some b_turn := by kernel_rfl
theorem s2_turn : scopeB N_turn ["_law_box", "_law_bench", "_law_own"] (defScope (top2 34)) = true := by decide +kernel
theorem c2_is_long : cSs N_is_long 60 .lam (defScope (top2 35)) (defBody (top2 35)) = some b_is_long := by kernel_rfl
theorem s2_is_long : scopeB N_is_long ["_law_box"] (defScope (top2 35)) = true := by decide +kernel
theorem c2_law : cSs N_law2 60 .no (defScope (top2 36)) (defBody (top2 36)) = some b_law2 := by kernel_rfl
theorem s2_law : scopeB N_law2 ["_law_script"] (defScope (top2 36)) = true := by decide +kernel

end Zw

set_option Elab.async false
set_option linter.all false
set_option maxRecDepth 100000
set_option maxHeartbeats 4000000
namespace Zw
open PySem PySem.Spec PyProof.Rows L2
local macro_rules | `(tactic| walk_at "mem") => `(tactic| (first | exact List.Mem.head _ | (apply List.Mem.tail; walk_at "mem")))
local macro_rules | `(tactic| walk_at "rp") => `(tactic| (first | exact Rp.hd | (apply Rp.tl; walk_at "rp")))
local macro_rules | `(tactic| walk_at "pk") => `(tactic| (first | exact Pk.hd | (apply Pk.tl; walk_at "pk")))
local macro_rules | `(tactic| walk_at "go1") => `(tactic| with_reducible (first
  | refine q_set ?_ | refine q_exp ?_ | refine q_doc ?_ | refine q_pass ?_ | refine q_ret ?_ | refine q_retN ?_ | refine q_brk ?_ | refine q_cont ?_ | refine q_if ?_ | refine q_par ?_ | refine q_setFld ?_ | refine q_setSub ?_ | refine q_for ?_
  | refine e_int ?_ | refine e_str ?_ | refine e_bl ?_ | refine e_non ?_ | refine e_bin ?_ | refine e_neg ?_ | refine e_nt ?_ | refine e_cmp ?_ | refine e_chain ?_ | refine e_and ?_ | refine e_or ?_ | refine e_ife ?_ | refine e_fld ?_ | refine e_sub ?_ | refine e_tup ?_ | refine e_lst ?_ | refine e_bi ?_ | refine e_meth ?_
  | refine es_nil ?_ | refine es_cons ?_ | refine t_yes ?_ | refine t_nt ?_ | refine t_and ?_ | refine t_or ?_ | refine t_cmp ?_ | refine t_val ?_ | refine i_seq ?_ | refine i_rng ?_
  | refine x_bl ?_ | refine x_in ?_ | refine tr_bl ?_ | refine tr_int ?_ | refine tr_non ?_
  | refine b_add ?_ | refine b_sub ?_ | refine c_lt ?_ | refine c_le ?_ | refine c_gt ?_ | refine c_ge ?_ | refine c_is ?_ | refine c_isnt ?_ | refine i_intB ?_ | refine c_eqI ?_ | refine c_neI ?_ | refine c_eqB ?_ | refine c_neB ?_ | refine c_eqS ?_ | refine q_nil ?_ | refine x_itt ?_ | refine x_iff ?_))
local macro_rules | `(tactic| walk_at "go2") => `(tactic| (first
  | ((with_reducible refine' e_var ?hg ?hh); (case hg => rfl))
  | ((with_reducible refine' s_0 ?hx ?hm ?hg ?hh); (case hx => assumption); (case hm => walk_at "mem"); (case hg => rfl))
  | ((with_reducible refine' s_1 ?hx ?hm ?hg ?hh); (case hx => assumption); (case hm => walk_at "mem"); (case hg => rfl))
  | ((with_reducible refine' s_2 ?hx ?hm ?hg ?hh); (case hx => assumption); (case hm => walk_at "mem"); (case hg => rfl))
  | ((with_reducible refine' p_0 ?hx ?hr ?hb ?hh); (case hx => assumption); (case hr => walk_at "rp"); (case hb => first | (simp; done) | decide); intros)
  | ((with_reducible refine' p_1 ?hx ?hr ?hb ?hh); (case hx => assumption); (case hr => walk_at "rp"); (case hb => first | (simp; done) | decide); intros)
  | ((with_reducible refine' n_lst ?hx ?hb ?hh); (case hx => assumption); (case hb => first | decide | (simp only [List.length_cons, List.length_nil]; decide)); intros)
  | ((with_reducible refine' n_tup ?hx ?hb ?hh); (case hx => assumption); (case hb => first | decide | (simp only [List.length_cons, List.length_nil]; decide)); intros)))
local macro_rules | `(tactic| walk_at "go") => `(tactic| repeat (first | walk_at "go1" | walk_at "go2"))
local macro_rules | `(tactic| walk_at "go2") => `(tactic| (first
  | ((with_reducible refine' e_ty ?hg ?hh); (case hg => rfl))
  | ((with_reducible refine' isi_dp ok_bl ?hx ?hh); (case hx => assumption))
  | ((with_reducible refine' isi_dp ok_int ?hx ?hh); (case hx => assumption))
  | ((with_reducible refine' isi_dp ok_str ?hx ?hh); (case hx => assumption))
  | ((with_reducible refine' isi_dp ok_tup ?hx ?hh); (case hx => assumption))
  | ((with_reducible refine' isi_dp ok_lst ?hx ?hh); (case hx => assumption))
  | ((with_reducible refine' x_dt ?hc ?hh); (case hc => rfl))
  | ((with_reducible refine' x_df ?hc ?hh); (case hc => rfl))))
section
variable (K : PySem.W.Frag)
structure DefF (x : Str) (st : Stmt) (f : Addr) (fd : FuncData) : Prop where
  a : PySem.W.nsIn K mainGlobals x = some (some (.ref f))
  fn : Fun K x x st f fd
structure DefL (x : Str) (st : Stmt) (f c : Addr) (fd : FuncData) : Prop extends DefF K x st f fd where
  fl : FunL K x x st f c fd
structure MetF (C : Addr) (m qual : Str) (st : Stmt) (f : Addr) (fd : FuncData) : Prop where
  me : Meth K C m f
  fn : Fun K m qual st f fd
structure ErrF (C : Addr) (nm : Str) (fI : Addr) : Prop where
  a : PySem.W.nsIn K mainGlobals nm = some (some (.ref C))
  oex : OexC K C
  exc : ExcC K C
  nam : NameC K C nm
  kin : PySem.W.findIn K (.ref C) "kind" = some none
  ini : PySem.W.findIn K (.ref C) "__init__" = some (some (.ref fI))
  ty : PySem.W.typeIn K (.ref fI) = some (.type "function")
structure ClsF (C : Addr) (nm : Str) (as : List Str) : Prop where
  a : PySem.W.nsIn K mainGlobals nm = some (some (.ref C))
  kp : PySem.W.keepIn K (.ref C) = true
  mks : PySem.W.makesIn K C = true
  cls : Cls K C
  na : ∀ f ∈ as, NoAttr K C f
end
section
variable {K : PySem.W.Frag}
theorem defF_of {x : Str} {st : Stmt} {f : Addr} {oc : Value} {od an : Option Addr} {osl : Array (Option Value)} {kV doc pm cdv ct : Value} (a : PySem.W.nsIn K mainGlobals x = some (some (.ref f)))
    (l : K.lookup f = some ⟨oc, od, .func (PySem.W.fnOf x x (defArgs st) (defBody st) (defScope st) .none kV doc pm an cdv ct), osl⟩) (c : PySem.W.codeIn K cdv x = true) (k : PySem.W.keepIn K (.ref f) = true) : ∃ f fd, DefF K x st f fd := ⟨_, _, a, fun_mk l c k⟩
theorem defL_of {x : Str} {st : Stmt} {f cc : Addr} {oc : Value} {od an : Option Addr} {osl : Array (Option Value)} {kV doc pm ct : Value} (a : PySem.W.nsIn K mainGlobals x = some (some (.ref f)))
    (l : K.lookup f = some ⟨oc, od, .func (PySem.W.fnOf x x (defArgs st) (defBody st) (defScope st) .none kV doc pm an (.ref cc) ct), osl⟩) (c : PySem.W.codeIn K (.ref cc) x = true) (k : PySem.W.keepIn K (.ref f) = true) : ∃ f fd, DefL K x st f cc fd := ⟨_, _, ⟨a, fun_mk l c k⟩, ⟨⟨_, _, _, _, _, _, _, _, rfl, l, c⟩⟩⟩
theorem metF_of {C : Addr} {m qual : Str} {st : Stmt} {f : Addr} {oc : Value} {od an : Option Addr} {osl : Array (Option Value)} {kV doc pm cdv ct : Value} (a : PySem.W.findIn K (.ref C) m = some (some (.ref f))) (n : PySem.W.isFn K (.ref f) = true)
    (l : K.lookup f = some ⟨oc, od, .func (PySem.W.fnOf m qual (defArgs st) (defBody st) (defScope st) .none kV doc pm an cdv ct), osl⟩) (c : PySem.W.codeIn K cdv qual = true) (k : PySem.W.keepIn K (.ref f) = true) : ∃ f fd, MetF K C m qual st f fd := ⟨_, _, ⟨a, n, k⟩, fun_mk l c k⟩
end
def lamTs (cs : List (Addr × Addr)) (qs : List Str) : List (Addr × Str) := List.zipWith (fun p q => (p.2, lamQ q)) cs qs
theorem bindsI {K : PySem.W.Frag} {f : Addr} {fd : FuncData} (D : FunD K "__init__" "VolumeError.__init__" (defArgs (inClass (top2 1) 0)) (defBody (inClass (top2 1) 0)) (defScope (inClass (top2 1) 0)) [.str ""] [] f fd) : Binds K fd ["self", "why"] [] := by
  obtain ⟨ds, hv, hb⟩ := FunD.binds1 (ps := ["self", "why"]) D 2 1 (by simp) rfl fun T kV doc pm an cdv ct us its hu hi => match us, hu, its, hi with | [_, _], _, [_], _ => ⟨_, rfl, by first | kernel_rfl | (simp [List.zip, List.lookup]; done) | (simp [List.zip, List.lookup]; rfl)⟩
  have : ds = [] := by
    cases hv
    rfl
  subst this
  exact hb
theorem all02 {l : PySem.W.OpenLaw} {w : World} {K : PySem.W.Frag} {h : Heap} {mg : Str → Option Value} {fa : Addr} (X : K.In h) (G : h.Ns mainGlobals mg) (hfa : mg "law" = some (.ref fa))
    {f_is_number : Addr} {d_is_number : FuncData} (D_is_number : DefF K "is_number" (top2 13) f_is_number d_is_number)
    {f_copied : Addr} {d_copied : FuncData} (D_copied : DefF K "copied" (top2 14) f_copied d_copied)
    {f_check_pieces : Addr} {d_check_pieces : FuncData} (D_check_pieces : DefF K "check_pieces" (top2 22) f_check_pieces d_check_pieces)
    {f_check_block : Addr} {d_check_block : FuncData} (D_check_block : DefF K "check_block" (top2 23) f_check_block d_check_block)
    {f_begun : Addr} {d_begun : FuncData} (D_begun : DefF K "_law_begun" (top2 26) f_begun d_begun)
    {f_take : Addr} {d_take : FuncData} (D_take : DefF K "_law_take" (top2 27) f_take d_take)
    {f_alike : Addr} {d_alike : FuncData} (D_alike : DefF K "_law_alike" (top2 28) f_alike d_alike)
    {f_told : Addr} {d_told : FuncData} (D_told : DefF K "_law_told" (top2 29) f_told d_told)
    {f_all : Addr} {d_all : FuncData} (D_all : DefF K "_law_all" (top2 30) f_all d_all)
    {f_deed : Addr} {d_deed : FuncData} (D_deed : DefF K "_law_deed" (top2 31) f_deed d_deed)
    {f_disk : Addr} {d_disk : FuncData} (D_disk : DefF K "_law_disk" (top2 32) f_disk d_disk)
    {f_law : Addr} {d_law : FuncData} (D_law : DefF K "law" (top2 36) f_law d_law)
    {f_comes c_comes P_comes : Addr} {d_comes : FuncData} (D_comes : DefL K "_law_comes" (top2 33) f_comes c_comes d_comes)
    {f_turn c_turn P_turn : Addr} {d_turn : FuncData} (D_turn : DefL K "_law_turn" (top2 34) f_turn c_turn d_turn)
    {f_is_long c_is_long P_is_long : Addr} {d_is_long : FuncData} (D_is_long : DefL K "_law_is_long" (top2 35) f_is_long c_is_long d_is_long)
    {C Cd VE fI : Addr} {cls : Str → Addr} (CB : ClsF K C "Bench" ["_places", "_done", "_left", "_stopped"]) (CD : ClsF K Cd "Disk" ["blocks", "laid"])
    {f_Bench_init : Addr} {d_Bench_init : FuncData} (D_Bench_init : MetF K C "__init__" "Bench.__init__" (inClass (top2 24) 0) f_Bench_init d_Bench_init)
    {f_Bench_check_going : Addr} {d_Bench_check_going : FuncData} (D_Bench_check_going : MetF K C "_check_going" "Bench._check_going" (inClass (top2 24) 1) f_Bench_check_going d_Bench_check_going)
    {f_Bench_is_place : Addr} {d_Bench_is_place : FuncData} (D_Bench_is_place : MetF K C "_is_place" "Bench._is_place" (inClass (top2 24) 2) f_Bench_is_place d_Bench_is_place)
    {f_Bench_found : Addr} {d_Bench_found : FuncData} (D_Bench_found : MetF K C "_found" "Bench._found" (inClass (top2 24) 3) f_Bench_found d_Bench_found)
    {f_Bench_begin_deed : Addr} {d_Bench_begin_deed : FuncData} (D_Bench_begin_deed : MetF K C "_begin_deed" "Bench._begin_deed" (inClass (top2 24) 4) f_Bench_begin_deed d_Bench_begin_deed)
    {f_Bench_get : Addr} {d_Bench_get : FuncData} (D_Bench_get : MetF K C "get" "Bench.get" (inClass (top2 24) 5) f_Bench_get d_Bench_get)
    {f_Bench_put : Addr} {d_Bench_put : FuncData} (D_Bench_put : MetF K C "put" "Bench.put" (inClass (top2 24) 6) f_Bench_put d_Bench_put)
    {f_Bench_sheet : Addr} {d_Bench_sheet : FuncData} (D_Bench_sheet : MetF K C "sheet" "Bench.sheet" (inClass (top2 24) 7) f_Bench_sheet d_Bench_sheet)
    {f_Bench_lay : Addr} {d_Bench_lay : FuncData} (D_Bench_lay : MetF K C "lay" "Bench.lay" (inClass (top2 24) 8) f_Bench_lay d_Bench_lay)
    {f_Bench_lose : Addr} {d_Bench_lose : FuncData} (D_Bench_lose : MetF K C "lose" "Bench.lose" (inClass (top2 24) 9) f_Bench_lose d_Bench_lose)
    {f_Bench_bring : Addr} {d_Bench_bring : FuncData} (D_Bench_bring : MetF K C "bring" "Bench.bring" (inClass (top2 24) 10) f_Bench_bring d_Bench_bring)
    {f_Bench_sizes : Addr} {d_Bench_sizes : FuncData} (D_Bench_sizes : MetF K C "sizes" "Bench.sizes" (inClass (top2 24) 11) f_Bench_sizes d_Bench_sizes)
    {f_Bench_deeds : Addr} {d_Bench_deeds : FuncData} (D_Bench_deeds : MetF K C "deeds" "Bench.deeds" (inClass (top2 24) 12) f_Bench_deeds d_Bench_deeds)
    {f_Bench_arm : Addr} {d_Bench_arm : FuncData} (D_Bench_arm : MetF K C "arm" "Bench.arm" (inClass (top2 24) 13) f_Bench_arm d_Bench_arm)
    {f_Bench_again : Addr} {d_Bench_again : FuncData} (D_Bench_again : MetF K C "again" "Bench.again" (inClass (top2 24) 14) f_Bench_again d_Bench_again)
    {f_Disk_init : Addr} {d_Disk_init : FuncData} (D_Disk_init : MetF K Cd "__init__" "Disk.__init__" (inClass (top2 21) 0) f_Disk_init d_Disk_init)
    {d_I : FuncData} (D_ID : FunD K "__init__" "VolumeError.__init__" (defArgs (inClass (top2 1) 0)) (defBody (inClass (top2 1) 0)) (defScope (inClass (top2 1) 0)) [.str ""] [] fI d_I)
    (vV : PySem.W.findCls K (.type "ValueError") (.type "type") "__init__" = some (.val (.builtin "ValueError.__init__")))
    (E_BadSizes : ErrF K (cls "BadSizes") "BadSizes" fI)
    (E_NoDisk : ErrF K (cls "NoDisk") "NoDisk" fI)
    (E_Stopped : ErrF K (cls "Stopped") "Stopped" fI)
    (KN : ∀ R : Rt, R.K = K → R.mg = mg → Kinds R VE cls)
    {t1 t2 t3 t4 t5 : Tok} (i1 : PySem.W.nsIn K mainGlobals "MOST_DISKS" = some (some (.int 6 t1))) (i2 : PySem.W.nsIn K mainGlobals "MOST_PIECES" = some (some (.int 12 t2))) (i3 : PySem.W.nsIn K mainGlobals "BLOCKS" = some (some (.int 4 t3))) (i4 : PySem.W.nsIn K mainGlobals "MOST_NUMBER" = some (some (.int 999 t4))) (i5 : PySem.W.nsIn K mainGlobals "MOST_DEEDS" = some (some (.int 1000000 t5)))
    (z : ∀ x ∈ bltNames, PySem.W.nsIn K mainGlobals x = some none)
    (ta : List (Addr × Str)) (hta : ta = [(P_comes, lamQ "_law_comes"), (P_turn, lamQ "_law_turn"), (P_is_long, lamQ "_law_is_long")]) (hP : P_comes ≠ P_turn ∧ P_comes ≠ P_is_long ∧ P_turn ≠ P_is_long)
    : fa = f_law ∧ ∀ base : Heap, K.In base → base.Ns mainGlobals mg → (∀ p ∈ [(c_comes, P_comes), (c_turn, P_turn), (c_is_long, P_is_long)], LamX.TabB base mg p.1 p.2) → FnOk l.prog w K mg base (L2.CX l.prog w) 17 f_law d_law ["_law_script"] (spLaw2 K ta) := by
  have e := hfa.symm.trans (PySem.W.mg_of X G D_law.a)
  refine ⟨by cases e; rfl, fun base KB GB TB => ?_⟩
  have blt : ∀ x ∈ bltNames, mg x = none := fun x hx => PySem.W.mg_none_of X G (z x hx)
  have b_is_number := D_is_number.fn.binds (ps := ["thing", "least", "most"]) fun _ _ _ _ _ _ us hl => match us, hl with | [_, _, _], _ => rfl
  have b_copied := D_copied.fn.binds (ps := ["thing"]) fun _ _ _ _ _ _ us hl => match us, hl with | [_], _ => rfl
  have b_check_pieces := D_check_pieces.fn.binds (ps := ["pieces"]) fun _ _ _ _ _ _ us hl => match us, hl with | [_], _ => rfl
  have b_check_block := D_check_block.fn.binds (ps := ["found", "piece", "block"]) fun _ _ _ _ _ _ us hl => match us, hl with | [_, _, _], _ => rfl
  have b_begun := D_begun.fn.binds (ps := ["_law_script"]) fun _ _ _ _ _ _ us hl => match us, hl with | [_], _ => rfl
  have b_take := D_take.fn.binds (ps := ["_law_box", "_law_many"]) fun _ _ _ _ _ _ us hl => match us, hl with | [_, _], _ => rfl
  have b_alike := D_alike.fn.binds (ps := ["_law_found", "_law_due"]) fun _ _ _ _ _ _ us hl => match us, hl with | [_, _], _ => rfl
  have b_told := D_told.fn.binds (ps := ["_law_work"]) fun _ _ _ _ _ _ us hl => match us, hl with | [_], _ => rfl
  have b_all := D_all.fn.binds (ps := ["_law_works", "_law_due"]) fun _ _ _ _ _ _ us hl => match us, hl with | [_, _], _ => rfl
  have b_deed := D_deed.fn.binds (ps := ["_law_own", "_law_disk_here"]) fun _ _ _ _ _ _ us hl => match us, hl with | [_, _], _ => rfl
  have b_disk := D_disk.fn.binds (ps := ["_law_size"]) fun _ _ _ _ _ _ us hl => match us, hl with | [_], _ => rfl
  have b_law := D_law.fn.binds (ps := ["_law_script"]) fun _ _ _ _ _ _ us hl => match us, hl with | [_], _ => rfl
  have b_comes := D_comes.fn.binds (ps := ["_law_box", "_law_bench", "_law_own", "_law_disk_here", "_law_way"]) fun _ _ _ _ _ _ us hl => match us, hl with | [_, _, _, _, _], _ => rfl
  have b_turn := D_turn.fn.binds (ps := ["_law_box", "_law_bench", "_law_own"]) fun _ _ _ _ _ _ us hl => match us, hl with | [_, _, _], _ => rfl
  have b_is_long := D_is_long.fn.binds (ps := ["_law_box"]) fun _ _ _ _ _ _ us hl => match us, hl with | [_], _ => rfl
  have b_Bench_init := D_Bench_init.fn.binds (ps := ["self", "sizes"]) fun _ _ _ _ _ _ us hl => match us, hl with | [_, _], _ => rfl
  have b_Bench_check_going := D_Bench_check_going.fn.binds (ps := ["self"]) fun _ _ _ _ _ _ us hl => match us, hl with | [_], _ => rfl
  have b_Bench_is_place := D_Bench_is_place.fn.binds (ps := ["self", "disk"]) fun _ _ _ _ _ _ us hl => match us, hl with | [_, _], _ => rfl
  have b_Bench_found := D_Bench_found.fn.binds (ps := ["self", "disk"]) fun _ _ _ _ _ _ us hl => match us, hl with | [_, _], _ => rfl
  have b_Bench_begin_deed := D_Bench_begin_deed.fn.binds (ps := ["self"]) fun _ _ _ _ _ _ us hl => match us, hl with | [_], _ => rfl
  have b_Bench_get := D_Bench_get.fn.binds (ps := ["self", "disk", "piece", "block"]) fun _ _ _ _ _ _ us hl => match us, hl with | [_, _, _, _], _ => rfl
  have b_Bench_put := D_Bench_put.fn.binds (ps := ["self", "disk", "piece", "block", "number"]) fun _ _ _ _ _ _ us hl => match us, hl with | [_, _, _, _, _], _ => rfl
  have b_Bench_sheet := D_Bench_sheet.fn.binds (ps := ["self", "disk"]) fun _ _ _ _ _ _ us hl => match us, hl with | [_, _], _ => rfl
  have b_Bench_lay := D_Bench_lay.fn.binds (ps := ["self", "disk", "sheet"]) fun _ _ _ _ _ _ us hl => match us, hl with | [_, _, _], _ => rfl
  have b_Bench_lose := D_Bench_lose.fn.binds (ps := ["self", "disk"]) fun _ _ _ _ _ _ us hl => match us, hl with | [_, _], _ => rfl
  have b_Bench_bring := D_Bench_bring.fn.binds (ps := ["self", "disk", "pieces"]) fun _ _ _ _ _ _ us hl => match us, hl with | [_, _, _], _ => rfl
  have b_Bench_sizes := D_Bench_sizes.fn.binds (ps := ["self"]) fun _ _ _ _ _ _ us hl => match us, hl with | [_], _ => rfl
  have b_Bench_deeds := D_Bench_deeds.fn.binds (ps := ["self"]) fun _ _ _ _ _ _ us hl => match us, hl with | [_], _ => rfl
  have b_Bench_arm := D_Bench_arm.fn.binds (ps := ["self", "count"]) fun _ _ _ _ _ _ us hl => match us, hl with | [_, _], _ => rfl
  have b_Bench_again := D_Bench_again.fn.binds (ps := ["self"]) fun _ _ _ _ _ _ us hl => match us, hl with | [_], _ => rfl
  have b_Disk_init := D_Disk_init.fn.binds (ps := ["self", "pieces"]) fun _ _ _ _ _ _ us hl => match us, hl with | [_, _], _ => rfl
  have b_I := bindsI D_ID
  have mgI : ∀ {x : Str} {i : Int} {t : Tok}, PySem.W.nsIn K mainGlobals x = some (some (.int i t)) → HasInt ⟨l.prog, w, K, mg, base⟩ x i := fun a => ⟨_, PySem.W.mg_of X G a⟩
  have A_I : FnOk l.prog w K mg base (L2.CX l.prog w) 1 fI d_I ["self", "why"] (spErrInit K) := fn_errInit D_ID (scopeB_ok (by decide +kernel)) rfl (blt _ (by decide +kernel)) rfl (fun env => ⟨_, rfl⟩) vV
  have X_BadSizes : HasErr ⟨l.prog, w, K, mg, base⟩ "BadSizes" (cls "BadSizes") := ⟨PySem.W.mg_of X G E_BadSizes.a, E_BadSizes.oex, E_BadSizes.exc, E_BadSizes.nam, E_BadSizes.kin, fI, d_I, E_BadSizes.ini, E_BadSizes.ty, A_I, b_I⟩
  have X_NoDisk : HasErr ⟨l.prog, w, K, mg, base⟩ "NoDisk" (cls "NoDisk") := ⟨PySem.W.mg_of X G E_NoDisk.a, E_NoDisk.oex, E_NoDisk.exc, E_NoDisk.nam, E_NoDisk.kin, fI, d_I, E_NoDisk.ini, E_NoDisk.ty, A_I, b_I⟩
  have X_Stopped : HasErr ⟨l.prog, w, K, mg, base⟩ "Stopped" (cls "Stopped") := ⟨PySem.W.mg_of X G E_Stopped.a, E_Stopped.oex, E_Stopped.exc, E_Stopped.nam, E_Stopped.kin, fI, d_I, E_Stopped.ini, E_Stopped.ty, A_I, b_I⟩
  have A_is_number : FnOk l.prog w K mg base (L2.CX l.prog w) 1 f_is_number d_is_number ["thing", "least", "most"] (spIsNum K) := fn_is_number (R := ⟨l.prog, w, K, mg, base⟩) (k := 0) D_is_number.fn blt s2_is_number c2_is_number
  have A_copied : FnOk l.prog w K mg base (L2.CX l.prog w) 1 f_copied d_copied ["thing"] spCopied := fn_wp (R := ⟨l.prog, w, K, mg, base⟩) (k := 0) D_copied.fn s2_copied c2_copied blt (fun vs H Q E h => by obtain ⟨_, _, _, rfl, _⟩ := h; rfl) fun vs H Q E h => w_copied (R := ⟨⟨l.prog, w, K, mg, base⟩, [], fun _ _ _ => False, none⟩) h
  have A_check_pieces : FnOk l.prog w K mg base (L2.CX l.prog w) 3 f_check_pieces d_check_pieces ["pieces"] (spCheckPieces K (cls "BadSizes")) := fn_wp (R := ⟨l.prog, w, K, mg, base⟩) (k := 2) D_check_pieces.fn s2_check_pieces c2_check_pieces blt (fun vs H Q E h => by obtain ⟨_, _, rfl, _⟩ := h; rfl) fun vs H Q E h => w_check_pieces (R := ⟨⟨l.prog, w, K, mg, base⟩, [], fun _ _ _ => False, none⟩) (⟨PySem.W.mg_of X G D_is_number.a, D_is_number.fn.kp, CallOk.fn (R := ⟨l.prog, w, K, mg, base⟩) A_is_number b_is_number (by decide)⟩ : Has ⟨l.prog, w, K, mg, base⟩ 2 "is_number" f_is_number _) (mgI i2) X_BadSizes (by decide) h
  have BC : BenchC K C := ⟨CB.cls, CB.na⟩
  have DC : DiskC K Cd := ⟨CD.cls, CD.na⟩
  have A_check_block : FnOk l.prog w K mg base (L2.CX l.prog w) 2 f_check_block d_check_block ["found", "piece", "block"] (spCheckBlock Cd) := fn_wp (R := ⟨l.prog, w, K, mg, base⟩) (k := 1) D_check_block.fn s2_check_block c2_check_block blt (fun vs H Q E h => by obtain ⟨_, _, _, _, _, _, _, rfl, _⟩ := h; rfl) fun vs H Q E h => w_check_block (R := ⟨⟨l.prog, w, K, mg, base⟩, [], fun _ _ _ => False, none⟩) DC (⟨PySem.W.mg_of X G D_is_number.a, D_is_number.fn.kp, CallOk.fn (R := ⟨l.prog, w, K, mg, base⟩) A_is_number b_is_number (by decide)⟩ : Has ⟨l.prog, w, K, mg, base⟩ 1 "is_number" f_is_number _) (mgI i3) h
  have A_Disk_init : FnOk l.prog w K mg base (L2.CX l.prog w) 1 f_Disk_init d_Disk_init ["self", "pieces"] (spDiskInit Cd) := fn_wp (R := ⟨l.prog, w, K, mg, base⟩) (k := 0) D_Disk_init.fn s2_Disk_init c2_Disk_init blt (fun vs H Q E h => by obtain ⟨_, _, _, _, rfl, _⟩ := h; rfl) fun vs H Q E h => w_Disk_init (R := ⟨⟨l.prog, w, K, mg, base⟩, [], fun _ _ _ => False, none⟩) DC (mgI i3) h
  have A_Bench_check_going : FnOk l.prog w K mg base (L2.CX l.prog w) 3 f_Bench_check_going d_Bench_check_going ["self"] (spGoing C (cls "Stopped")) := fn_wp (R := ⟨l.prog, w, K, mg, base⟩) (k := 2) D_Bench_check_going.fn s2_Bench_check_going c2_Bench_check_going blt (fun vs H Q E h => by obtain ⟨_, _, _, _, _, _, rfl, _⟩ := h; rfl) fun vs H Q E h => w_going (R := ⟨⟨l.prog, w, K, mg, base⟩, [], fun _ _ _ => False, none⟩) BC X_Stopped (by decide) h
  have A_Bench_begin_deed : FnOk l.prog w K mg base (L2.CX l.prog w) 3 f_Bench_begin_deed d_Bench_begin_deed ["self"] (spBegin C (cls "Stopped")) := fn_wp (R := ⟨l.prog, w, K, mg, base⟩) (k := 2) D_Bench_begin_deed.fn s2_Bench_begin_deed c2_Bench_begin_deed blt (fun vs H Q E h => by obtain ⟨_, _, _, _, _, _, rfl, _⟩ := h; rfl) fun vs H Q E h => w_begin (R := ⟨⟨l.prog, w, K, mg, base⟩, [], fun _ _ _ => False, none⟩) BC X_Stopped (by decide) h
  have A_Bench_is_place : FnOk l.prog w K mg base (L2.CX l.prog w) 2 f_Bench_is_place d_Bench_is_place ["self", "disk"] (spPlace K C) := fn_wp (R := ⟨l.prog, w, K, mg, base⟩) (k := 1) D_Bench_is_place.fn s2_Bench_is_place c2_Bench_is_place blt (fun vs H Q E h => by obtain ⟨_, _, _, _, _, _, _, _, _, rfl, _⟩ := h; rfl) fun vs H Q E h => w_place (R := ⟨⟨l.prog, w, K, mg, base⟩, [], fun _ _ _ => False, none⟩) BC (⟨PySem.W.mg_of X G D_is_number.a, D_is_number.fn.kp, CallOk.fn (R := ⟨l.prog, w, K, mg, base⟩) A_is_number b_is_number (by decide)⟩ : Has ⟨l.prog, w, K, mg, base⟩ 1 "is_number" f_is_number _) h
  have A_Bench_found : FnOk l.prog w K mg base (L2.CX l.prog w) 4 f_Bench_found d_Bench_found ["self", "disk"] (spFound K C (cls "Stopped") (cls "NoDisk")) := fn_wp (R := ⟨l.prog, w, K, mg, base⟩) (k := 3) D_Bench_found.fn s2_Bench_found c2_Bench_found blt (fun vs H Q E h => by obtain ⟨_, _, _, _, _, _, _, _, _, rfl, _⟩ := h; rfl) fun vs H Q E h => w_found (R := ⟨⟨l.prog, w, K, mg, base⟩, [], fun _ _ _ => False, none⟩) rfl BC (⟨D_Bench_check_going.me, CallOk.fn (R := ⟨l.prog, w, K, mg, base⟩) A_Bench_check_going b_Bench_check_going (by decide)⟩ : HasM ⟨l.prog, w, K, mg, base⟩ 3 C "_check_going" f_Bench_check_going _) (⟨D_Bench_is_place.me, CallOk.fn (R := ⟨l.prog, w, K, mg, base⟩) A_Bench_is_place b_Bench_is_place (by decide)⟩ : HasM ⟨l.prog, w, K, mg, base⟩ 3 C "_is_place" f_Bench_is_place _) X_NoDisk (by decide) h
  have HD : Has ⟨l.prog, w, K, mg, base⟩ 6 "Disk" Cd (spMake Cd (spDiskInit Cd)) := ⟨PySem.W.mg_of X G CD.a, CD.kp, CallOk.make (R := ⟨l.prog, w, K, mg, base⟩) ⟨CD.mks, D_Disk_init.me.at_, D_Disk_init.me.fn, CD.kp⟩ A_Disk_init b_Disk_init (by decide)⟩
  have BN0 : BN (⟨⟨l.prog, w, K, mg, base⟩, [], fun _ _ _ => False, none⟩ : Rx) 6 C Cd cls := ⟨rfl, by decide, BC, DC, ⟨_, (⟨PySem.W.mg_of X G D_is_number.a, D_is_number.fn.kp, CallOk.fn (R := ⟨l.prog, w, K, mg, base⟩) A_is_number b_is_number (by decide)⟩ : Has ⟨l.prog, w, K, mg, base⟩ 6 "is_number" f_is_number _)⟩, ⟨_, (⟨PySem.W.mg_of X G D_check_block.a, D_check_block.fn.kp, CallOk.fn (R := ⟨l.prog, w, K, mg, base⟩) A_check_block b_check_block (by decide)⟩ : Has ⟨l.prog, w, K, mg, base⟩ 6 "check_block" f_check_block _)⟩, ⟨_, (⟨D_Bench_found.me, CallOk.fn (R := ⟨l.prog, w, K, mg, base⟩) A_Bench_found b_Bench_found (by decide)⟩ : HasM ⟨l.prog, w, K, mg, base⟩ 6 C "_found" f_Bench_found _)⟩, ⟨_, (⟨D_Bench_begin_deed.me, CallOk.fn (R := ⟨l.prog, w, K, mg, base⟩) A_Bench_begin_deed b_Bench_begin_deed (by decide)⟩ : HasM ⟨l.prog, w, K, mg, base⟩ 6 C "_begin_deed" f_Bench_begin_deed _)⟩, mgI i4⟩
  have BM0 : BM (⟨⟨l.prog, w, K, mg, base⟩, [], fun _ _ _ => False, none⟩ : Rx) 6 C Cd cls := ⟨BN0, ⟨_, (⟨D_Bench_check_going.me, CallOk.fn (R := ⟨l.prog, w, K, mg, base⟩) A_Bench_check_going b_Bench_check_going (by decide)⟩ : HasM ⟨l.prog, w, K, mg, base⟩ 6 C "_check_going" f_Bench_check_going _)⟩, ⟨_, (⟨D_Bench_is_place.me, CallOk.fn (R := ⟨l.prog, w, K, mg, base⟩) A_Bench_is_place b_Bench_is_place (by decide)⟩ : HasM ⟨l.prog, w, K, mg, base⟩ 6 C "_is_place" f_Bench_is_place _)⟩, ⟨_, (⟨PySem.W.mg_of X G D_check_pieces.a, D_check_pieces.fn.kp, CallOk.fn (R := ⟨l.prog, w, K, mg, base⟩) A_check_pieces b_check_pieces (by decide)⟩ : Has ⟨l.prog, w, K, mg, base⟩ 6 "check_pieces" f_check_pieces _)⟩, HD, X_NoDisk, mgI i1, mgI i5⟩
  have A_Bench_get : FnOk l.prog w K mg base (L2.CX l.prog w) 7 f_Bench_get d_Bench_get ["self", "disk", "piece", "block"] (spGet C Cd cls) := fn_wp (R := ⟨l.prog, w, K, mg, base⟩) (k := 6) D_Bench_get.fn s2_Bench_get c2_Bench_get blt (fun vs H Q E h => by obtain ⟨_, _, _, _, _, _, rfl, _⟩ := h; rfl) fun vs H Q E h => w_get (R := ⟨⟨l.prog, w, K, mg, base⟩, [], fun _ _ _ => False, none⟩) BN0 h
  have A_Bench_put : FnOk l.prog w K mg base (L2.CX l.prog w) 7 f_Bench_put d_Bench_put ["self", "disk", "piece", "block", "number"] (spPut C Cd cls) := fn_wp (R := ⟨l.prog, w, K, mg, base⟩) (k := 6) D_Bench_put.fn s2_Bench_put c2_Bench_put blt (fun vs H Q E h => by obtain ⟨_, _, _, _, _, _, _, rfl, _⟩ := h; rfl) fun vs H Q E h => w_put (R := ⟨⟨l.prog, w, K, mg, base⟩, [], fun _ _ _ => False, none⟩) BN0 h
  have A_Bench_lay : FnOk l.prog w K mg base (L2.CX l.prog w) 7 f_Bench_lay d_Bench_lay ["self", "disk", "sheet"] (spLay C Cd cls) := fn_wp (R := ⟨l.prog, w, K, mg, base⟩) (k := 6) D_Bench_lay.fn s2_Bench_lay c2_Bench_lay blt (fun vs H Q E h => by obtain ⟨_, _, _, _, _, _, rfl, _⟩ := h; rfl) fun vs H Q E h => w_lay (R := ⟨⟨l.prog, w, K, mg, base⟩, [], fun _ _ _ => False, none⟩) BN0 (⟨PySem.W.mg_of X G D_copied.a, D_copied.fn.kp, CallOk.fn (R := ⟨l.prog, w, K, mg, base⟩) A_copied b_copied (by decide)⟩ : Has ⟨l.prog, w, K, mg, base⟩ 6 "copied" f_copied _) h
  have A_Bench_sheet : FnOk l.prog w K mg base (L2.CX l.prog w) 7 f_Bench_sheet d_Bench_sheet ["self", "disk"] (spSheet C Cd cls) := fn_wp (R := ⟨l.prog, w, K, mg, base⟩) (k := 6) D_Bench_sheet.fn s2_Bench_sheet c2_Bench_sheet blt (fun vs H Q E h => by obtain ⟨_, _, _, _, rfl, _⟩ := h; rfl) fun vs H Q E h => w_sheet (R := ⟨⟨l.prog, w, K, mg, base⟩, [], fun _ _ _ => False, none⟩) BN0 (⟨PySem.W.mg_of X G D_copied.a, D_copied.fn.kp, CallOk.fn (R := ⟨l.prog, w, K, mg, base⟩) A_copied b_copied (by decide)⟩ : Has ⟨l.prog, w, K, mg, base⟩ 6 "copied" f_copied _) h
  have A_Bench_lose : FnOk l.prog w K mg base (L2.CX l.prog w) 7 f_Bench_lose d_Bench_lose ["self", "disk"] (spLose C Cd cls) := fn_wp (R := ⟨l.prog, w, K, mg, base⟩) (k := 6) D_Bench_lose.fn s2_Bench_lose c2_Bench_lose blt (fun vs H Q E h => by obtain ⟨_, _, _, _, rfl, _⟩ := h; rfl) fun vs H Q E h => w_lose (R := ⟨⟨l.prog, w, K, mg, base⟩, [], fun _ _ _ => False, none⟩) BN0 h
  have A_Bench_bring : FnOk l.prog w K mg base (L2.CX l.prog w) 7 f_Bench_bring d_Bench_bring ["self", "disk", "pieces"] (spBring C Cd cls) := fn_wp (R := ⟨l.prog, w, K, mg, base⟩) (k := 6) D_Bench_bring.fn s2_Bench_bring c2_Bench_bring blt (fun vs H Q E h => by obtain ⟨_, _, _, _, _, rfl, _⟩ := h; rfl) fun vs H Q E h => w_bring (R := ⟨⟨l.prog, w, K, mg, base⟩, [], fun _ _ _ => False, none⟩) BM0 h
  have A_Bench_sizes : FnOk l.prog w K mg base (L2.CX l.prog w) 7 f_Bench_sizes d_Bench_sizes ["self"] (spSizes C Cd) := fn_wp (R := ⟨l.prog, w, K, mg, base⟩) (k := 6) D_Bench_sizes.fn s2_Bench_sizes c2_Bench_sizes blt (fun vs H Q E h => by obtain ⟨_, _, _, rfl, _⟩ := h; rfl) fun vs H Q E h => w_sizes (R := ⟨⟨l.prog, w, K, mg, base⟩, [], fun _ _ _ => False, none⟩) BM0 h
  have A_Bench_deeds : FnOk l.prog w K mg base (L2.CX l.prog w) 7 f_Bench_deeds d_Bench_deeds ["self"] (spDeeds C Cd) := fn_wp (R := ⟨l.prog, w, K, mg, base⟩) (k := 6) D_Bench_deeds.fn s2_Bench_deeds c2_Bench_deeds blt (fun vs H Q E h => by obtain ⟨_, _, _, rfl, _⟩ := h; rfl) fun vs H Q E h => w_deeds (R := ⟨⟨l.prog, w, K, mg, base⟩, [], fun _ _ _ => False, none⟩) BM0 h
  have A_Bench_again : FnOk l.prog w K mg base (L2.CX l.prog w) 7 f_Bench_again d_Bench_again ["self"] (spAgain C Cd) := fn_wp (R := ⟨l.prog, w, K, mg, base⟩) (k := 6) D_Bench_again.fn s2_Bench_again c2_Bench_again blt (fun vs H Q E h => by obtain ⟨_, _, _, rfl, _⟩ := h; rfl) fun vs H Q E h => w_again (R := ⟨⟨l.prog, w, K, mg, base⟩, [], fun _ _ _ => False, none⟩) BM0 h
  have A_Bench_arm : FnOk l.prog w K mg base (L2.CX l.prog w) 7 f_Bench_arm d_Bench_arm ["self", "count"] (spArm C Cd) := fn_wp (R := ⟨l.prog, w, K, mg, base⟩) (k := 6) D_Bench_arm.fn s2_Bench_arm c2_Bench_arm blt (fun vs H Q E h => by obtain ⟨_, _, _, _, rfl, _⟩ := h; rfl) fun vs H Q E h => w_arm (R := ⟨⟨l.prog, w, K, mg, base⟩, [], fun _ _ _ => False, none⟩) BM0 h
  have A_Bench_init : FnOk l.prog w K mg base (L2.CX l.prog w) 7 f_Bench_init d_Bench_init ["self", "sizes"] (spBenchInit C Cd) := fn_wp (R := ⟨l.prog, w, K, mg, base⟩) (k := 6) D_Bench_init.fn s2_Bench_init c2_Bench_init blt (fun vs H Q E h => by obtain ⟨_, _, _, _, _, rfl, _⟩ := h; rfl) fun vs H Q E h => w_Bench_init (R := ⟨⟨l.prog, w, K, mg, base⟩, [], fun _ _ _ => False, none⟩) BM0 h
  have A_begun : FnOk l.prog w K mg base (L2.CX l.prog w) 1 f_begun d_begun ["_law_script"] (spBegun K) := fn_begun (R := ⟨l.prog, w, K, mg, base⟩) (k := 0) D_begun.fn blt s2_begun c2_begun
  have A_take : FnOk l.prog w K mg base (L2.CX l.prog w) 1 f_take d_take ["_law_box", "_law_many"] spTake := fn_take (R := ⟨l.prog, w, K, mg, base⟩) (k := 0) D_take.fn blt s2_take c2_take
  have A_alike : FnOk l.prog w K mg base (L2.CX l.prog w) 4 f_alike d_alike ["_law_found", "_law_due"] (spAlike K 3) := fn_alike (R := ⟨l.prog, w, K, mg, base⟩) D_alike.fn b_alike (PySem.W.mg_of X G D_alike.a) D_alike.fn.kp blt s2_alike c2_alike 3
  have A_told : FnOk l.prog w K mg base (L2.CX l.prog w) 10 f_told d_told ["_law_work"] (spTold ⟨l.prog, w, K, mg, base⟩ 9 cls) := fn_told (R := ⟨l.prog, w, K, mg, base⟩) (k := 9) D_told.fn (KN _ rfl rfl) blt s2_told c2_told
  have A_deed : FnOk l.prog w K mg base (L2.CX l.prog w) 1 f_deed d_deed ["_law_own", "_law_disk_here"] spDeed := fn_wp (R := ⟨l.prog, w, K, mg, base⟩) (k := 0) D_deed.fn s2_deed c2_deed blt (fun vs H Q E h => by obtain ⟨_, _, _, _, _, _, rfl, _⟩ := h; rfl) fun vs H Q E h => w_deed (R := ⟨⟨l.prog, w, K, mg, base⟩, [], fun _ _ _ => False, none⟩) h
  have A_disk : FnOk l.prog w K mg base (L2.CX l.prog w) 1 f_disk d_disk ["_law_size"] spODisk := fn_wp (R := ⟨l.prog, w, K, mg, base⟩) (k := 0) D_disk.fn s2_disk c2_disk blt (fun vs H Q E h => by obtain ⟨_, _, rfl, _⟩ := h; rfl) fun vs H Q E h => w_disk (R := ⟨⟨l.prog, w, K, mg, base⟩, [], fun _ _ _ => False, none⟩) h
  have A_all : FnOk l.prog w K mg base (L2.CX l.prog w) 11 f_all d_all ["_law_works", "_law_due"] (spAll ⟨l.prog, w, K, mg, base⟩ 9 cls) := fn_wp (R := ⟨l.prog, w, K, mg, base⟩) (k := 10) D_all.fn s2_all c2_all blt (fun vs H Q E h => by obtain ⟨_, _, _, _, _, rfl, _⟩ := h; rfl) fun vs H Q E h => w_all (R := ⟨⟨l.prog, w, K, mg, base⟩, [], fun _ _ _ => False, none⟩) (⟨PySem.W.mg_of X G D_alike.a, D_alike.fn.kp, CallOk.fn (R := ⟨l.prog, w, K, mg, base⟩) A_alike b_alike (by decide)⟩ : Has ⟨l.prog, w, K, mg, base⟩ 10 "_law_alike" f_alike _) (⟨PySem.W.mg_of X G D_told.a, D_told.fn.kp, CallOk.fn (R := ⟨l.prog, w, K, mg, base⟩) A_told b_told (by decide)⟩ : Has ⟨l.prog, w, K, mg, base⟩ 10 "_law_told" f_told _) h
  have HB : ∀ k, 8 ≤ k → Has ⟨l.prog, w, K, mg, base⟩ k "Bench" C (spMake C (spBenchInit C Cd)) := fun k hk => ⟨PySem.W.mg_of X G CB.a, CB.kp, CallOk.make (R := ⟨l.prog, w, K, mg, base⟩) ⟨CB.mks, D_Bench_init.me.at_, D_Bench_init.me.fn, CB.kp⟩ A_Bench_init b_Bench_init hk⟩
  have HM : ∀ k m g fd ps sp, 7 ≤ k → Meth K C m g → FnOk l.prog w K mg base (L2.CX l.prog w) 7 g fd ps sp → Binds K fd ps [] → HasM ⟨l.prog, w, K, mg, base⟩ k C m g sp := fun k m g fd ps sp hk me F b => ⟨me, CallOk.fn (R := ⟨l.prog, w, K, mg, base⟩) F b hk⟩
  have LN0 : ∀ M k, 12 ≤ k → LN (⟨⟨l.prog, w, K, mg, base⟩, ta, M, none⟩ : Rx) k 8 C Cd cls := fun M k hk => ⟨rfl, BC, ⟨_, PySem.W.mg_of X G D_take.a, D_take.fn.kp, CallOk.fn (R := ⟨l.prog, w, K, mg, base⟩) A_take b_take (by omega)⟩, ⟨_, PySem.W.mg_of X G D_alike.a, D_alike.fn.kp, CallOk.fn (R := ⟨l.prog, w, K, mg, base⟩) A_alike b_alike (by omega)⟩, ⟨_, PySem.W.mg_of X G D_told.a, D_told.fn.kp, CallEnv.fn (R := ⟨l.prog, w, K, mg, base⟩) A_told b_told (by omega)⟩, ⟨_, HM 8 _ _ _ _ _ (by decide) D_Bench_put.me A_Bench_put b_Bench_put⟩, ⟨_, HM 8 _ _ _ _ _ (by decide) D_Bench_get.me A_Bench_get b_Bench_get⟩, ⟨_, HM 8 _ _ _ _ _ (by decide) D_Bench_lay.me A_Bench_lay b_Bench_lay⟩, ⟨_, HM 8 _ _ _ _ _ (by decide) D_Bench_sheet.me A_Bench_sheet b_Bench_sheet⟩, ⟨_, HM 8 _ _ _ _ _ (by decide) D_Bench_lose.me A_Bench_lose b_Bench_lose⟩, ⟨_, HM 8 _ _ _ _ _ (by decide) D_Bench_bring.me A_Bench_bring b_Bench_bring⟩, ⟨_, HM 8 _ _ _ _ _ (by decide) D_Bench_arm.me A_Bench_arm b_Bench_arm⟩, ⟨_, HM 8 _ _ _ _ _ (by decide) D_Bench_again.me A_Bench_again b_Bench_again⟩⟩
  have U_comes : ∀ p ∈ ta, p.1 = P_comes → p.2 = lamQ "_law_comes" := fun p hp e => by
    simp only [hta, List.mem_cons, List.not_mem_nil, or_false] at hp
    rcases hp with rfl | rfl | rfl
    · rfl
    · exact absurd e.symm hP.1
    · exact absurd e.symm hP.2.1
  have U_turn : ∀ p ∈ ta, p.1 = P_turn → p.2 = lamQ "_law_turn" := fun p hp e => by
    simp only [hta, List.mem_cons, List.not_mem_nil, or_false] at hp
    rcases hp with rfl | rfl | rfl
    · exact absurd e hP.1
    · rfl
    · exact absurd e.symm hP.2.2
  have U_is_long : ∀ p ∈ ta, p.1 = P_is_long → p.2 = lamQ "_law_is_long" := fun p hp e => by
    simp only [hta, List.mem_cons, List.not_mem_nil, or_false] at hp
    rcases hp with rfl | rfl | rfl
    · exact absurd e hP.2.1
    · exact absurd e hP.2.2
    · rfl
  have A_comes : FnOk l.prog w K mg base (L2.CX l.prog w) 13 f_comes d_comes ["_law_box", "_law_bench", "_law_own", "_law_disk_here", "_law_way"] (spComes ta C Cd) := fn_wpL (R := ⟨l.prog, w, K, mg, base⟩) (k := 12) (ta := ta) D_comes.fl s2_comes c2_comes blt (TB (c_comes, P_comes) (by simp)) (by rw [hta]; simp) U_comes (fun vs H Q E h => by obtain ⟨_, _, _, _, _, _, _, rfl, _⟩ := h; rfl) fun M vs H Q E h => w_comes (R := ⟨⟨l.prog, w, K, mg, base⟩, ta, M, none⟩) (LN0 M 12 (by decide)) ⟨_, (⟨PySem.W.mg_of X G D_disk.a, D_disk.fn.kp, CallOk.fn (R := ⟨l.prog, w, K, mg, base⟩) A_disk b_disk (by decide)⟩ : Has ⟨l.prog, w, K, mg, base⟩ 12 "_law_disk" f_disk _)⟩ h
  have A_turn : FnOk l.prog w K mg base (L2.CX l.prog w) 15 f_turn d_turn ["_law_box", "_law_bench", "_law_own"] (spTurn ta C Cd) := fn_wpL (R := ⟨l.prog, w, K, mg, base⟩) (k := 14) (ta := ta) D_turn.fl s2_turn c2_turn blt (TB (c_turn, P_turn) (by simp)) (by rw [hta]; simp) U_turn (fun vs H Q E h => by obtain ⟨_, _, _, _, _, rfl, _⟩ := h; rfl) fun M vs H Q E h => w_turn (R := ⟨⟨l.prog, w, K, mg, base⟩, ta, M, none⟩) ⟨LN0 M 14 (by decide), ⟨_, (⟨PySem.W.mg_of X G D_deed.a, D_deed.fn.kp, CallOk.fn (R := ⟨l.prog, w, K, mg, base⟩) A_deed b_deed (by decide)⟩ : Has ⟨l.prog, w, K, mg, base⟩ 14 "_law_deed" f_deed _)⟩, ⟨_, (⟨PySem.W.mg_of X G D_comes.a, D_comes.fn.kp, CallOk.fn (R := ⟨l.prog, w, K, mg, base⟩) A_comes b_comes (by decide)⟩ : Has ⟨l.prog, w, K, mg, base⟩ 14 "_law_comes" f_comes _)⟩⟩ h
  have A_is_long : FnOk l.prog w K mg base (L2.CX l.prog w) 13 f_is_long d_is_long ["_law_box"] (spLong ta) := fn_wpL (R := ⟨l.prog, w, K, mg, base⟩) (k := 12) (ta := ta) D_is_long.fl s2_is_long c2_is_long blt (TB (c_is_long, P_is_long) (by simp)) (by rw [hta]; simp) U_is_long (fun vs H Q E h => by obtain ⟨_, _, rfl, _⟩ := h; rfl) fun M vs H Q E h => w_is_long (R := ⟨⟨l.prog, w, K, mg, base⟩, ta, M, none⟩) ⟨LN0 M 12 (by decide), HB 12 (by decide), ⟨_, HM 12 _ _ _ _ _ (by decide) D_Bench_put.me A_Bench_put b_Bench_put⟩, ⟨_, HM 12 _ _ _ _ _ (by decide) D_Bench_arm.me A_Bench_arm b_Bench_arm⟩, ⟨_, HM 12 _ _ _ _ _ (by decide) D_Bench_deeds.me A_Bench_deeds b_Bench_deeds⟩, ⟨_, (⟨PySem.W.mg_of X G D_all.a, D_all.fn.kp, CallEnv.fn (R := ⟨l.prog, w, K, mg, base⟩) A_all b_all (by decide)⟩ : HasZ ⟨l.prog, w, K, mg, base⟩ 12 "_law_all" f_all _)⟩⟩ h
  exact fn_wp (R := ⟨l.prog, w, K, mg, base⟩) (k := 16) D_law.fn s2_law c2_law blt (fun vs H Q E h => by obtain ⟨_, _, _, rfl, _⟩ := h; rfl) fun vs H Q E h => w_law2 (R := ⟨⟨l.prog, w, K, mg, base⟩, [], fun _ _ _ => False, none⟩) (T := ta) (C := C) (Cd := Cd) (cls := cls) ⟨rfl, BC, ⟨_, (⟨PySem.W.mg_of X G D_begun.a, D_begun.fn.kp, CallOk.fn (R := ⟨l.prog, w, K, mg, base⟩) A_begun b_begun (by decide)⟩ : Has ⟨l.prog, w, K, mg, base⟩ 16 "_law_begun" f_begun _)⟩, ⟨_, (⟨PySem.W.mg_of X G D_take.a, D_take.fn.kp, CallOk.fn (R := ⟨l.prog, w, K, mg, base⟩) A_take b_take (by decide)⟩ : Has ⟨l.prog, w, K, mg, base⟩ 16 "_law_take" f_take _)⟩, ⟨_, (⟨PySem.W.mg_of X G D_alike.a, D_alike.fn.kp, CallOk.fn (R := ⟨l.prog, w, K, mg, base⟩) A_alike b_alike (by decide)⟩ : Has ⟨l.prog, w, K, mg, base⟩ 16 "_law_alike" f_alike _)⟩, HB 16 (by decide), ⟨_, (⟨PySem.W.mg_of X G D_disk.a, D_disk.fn.kp, CallOk.fn (R := ⟨l.prog, w, K, mg, base⟩) A_disk b_disk (by decide)⟩ : Has ⟨l.prog, w, K, mg, base⟩ 16 "_law_disk" f_disk _)⟩, ⟨_, (⟨PySem.W.mg_of X G D_turn.a, D_turn.fn.kp, CallOk.fn (R := ⟨l.prog, w, K, mg, base⟩) A_turn b_turn (by decide)⟩ : Has ⟨l.prog, w, K, mg, base⟩ 16 "_law_turn" f_turn _)⟩, ⟨_, (⟨PySem.W.mg_of X G D_is_long.a, D_is_long.fn.kp, CallOk.fn (R := ⟨l.prog, w, K, mg, base⟩) A_is_long b_is_long (by decide)⟩ : Has ⟨l.prog, w, K, mg, base⟩ 16 "_law_is_long" f_is_long _)⟩, ⟨_, HM 16 _ _ _ _ _ (by decide) D_Bench_sizes.me A_Bench_sizes b_Bench_sizes⟩, ⟨_, HM 16 _ _ _ _ _ (by decide) D_Bench_deeds.me A_Bench_deeds b_Bench_deeds⟩, ⟨_, HM 16 _ _ _ _ _ (by decide) D_Bench_again.me A_Bench_again b_Bench_again⟩, ⟨_, HM 16 _ _ _ _ _ (by decide) D_Bench_get.me A_Bench_get b_Bench_get⟩, ⟨_, HM 16 _ _ _ _ _ (by decide) D_Bench_sheet.me A_Bench_sheet b_Bench_sheet⟩⟩ h

end Zw

set_option Elab.async false
set_option linter.all false
set_option maxRecDepth 100000
set_option maxHeartbeats 4000000
namespace Zw
open PySem PySem.Spec PyProof.Rows L2
local macro_rules | `(tactic| walk_at "mem") => `(tactic| (first | exact List.Mem.head _ | (apply List.Mem.tail; walk_at "mem")))
local macro_rules | `(tactic| walk_at "rp") => `(tactic| (first | exact Rp.hd | (apply Rp.tl; walk_at "rp")))
local macro_rules | `(tactic| walk_at "pk") => `(tactic| (first | exact Pk.hd | (apply Pk.tl; walk_at "pk")))
local macro_rules | `(tactic| walk_at "go1") => `(tactic| with_reducible (first
  | refine q_set ?_ | refine q_exp ?_ | refine q_doc ?_ | refine q_pass ?_ | refine q_ret ?_ | refine q_retN ?_ | refine q_brk ?_ | refine q_cont ?_ | refine q_if ?_ | refine q_par ?_ | refine q_setFld ?_ | refine q_setSub ?_ | refine q_for ?_
  | refine e_int ?_ | refine e_str ?_ | refine e_bl ?_ | refine e_non ?_ | refine e_bin ?_ | refine e_neg ?_ | refine e_nt ?_ | refine e_cmp ?_ | refine e_chain ?_ | refine e_and ?_ | refine e_or ?_ | refine e_ife ?_ | refine e_fld ?_ | refine e_sub ?_ | refine e_tup ?_ | refine e_lst ?_ | refine e_bi ?_ | refine e_meth ?_
  | refine es_nil ?_ | refine es_cons ?_ | refine t_yes ?_ | refine t_nt ?_ | refine t_and ?_ | refine t_or ?_ | refine t_cmp ?_ | refine t_val ?_ | refine i_seq ?_ | refine i_rng ?_
  | refine x_bl ?_ | refine x_in ?_ | refine tr_bl ?_ | refine tr_int ?_ | refine tr_non ?_
  | refine b_add ?_ | refine b_sub ?_ | refine c_lt ?_ | refine c_le ?_ | refine c_gt ?_ | refine c_ge ?_ | refine c_is ?_ | refine c_isnt ?_ | refine i_intB ?_ | refine c_eqI ?_ | refine c_neI ?_ | refine c_eqB ?_ | refine c_neB ?_ | refine c_eqS ?_ | refine q_nil ?_ | refine x_itt ?_ | refine x_iff ?_))
local macro_rules | `(tactic| walk_at "go2") => `(tactic| (first
  | ((with_reducible refine' e_var ?hg ?hh); (case hg => rfl))
  | ((with_reducible refine' s_0 ?hx ?hm ?hg ?hh); (case hx => assumption); (case hm => walk_at "mem"); (case hg => rfl))
  | ((with_reducible refine' s_1 ?hx ?hm ?hg ?hh); (case hx => assumption); (case hm => walk_at "mem"); (case hg => rfl))
  | ((with_reducible refine' s_2 ?hx ?hm ?hg ?hh); (case hx => assumption); (case hm => walk_at "mem"); (case hg => rfl))
  | ((with_reducible refine' p_0 ?hx ?hr ?hb ?hh); (case hx => assumption); (case hr => walk_at "rp"); (case hb => first | (simp; done) | decide); intros)
  | ((with_reducible refine' p_1 ?hx ?hr ?hb ?hh); (case hx => assumption); (case hr => walk_at "rp"); (case hb => first | (simp; done) | decide); intros)
  | ((with_reducible refine' n_lst ?hx ?hb ?hh); (case hx => assumption); (case hb => first | decide | (simp only [List.length_cons, List.length_nil]; decide)); intros)
  | ((with_reducible refine' n_tup ?hx ?hb ?hh); (case hx => assumption); (case hb => first | decide | (simp only [List.length_cons, List.length_nil]; decide)); intros)))
local macro_rules | `(tactic| walk_at "go") => `(tactic| repeat (first | walk_at "go1" | walk_at "go2"))
local macro_rules | `(tactic| walk_at "go2") => `(tactic| (first
  | ((with_reducible refine' e_ty ?hg ?hh); (case hg => rfl))
  | ((with_reducible refine' isi_dp ok_bl ?hx ?hh); (case hx => assumption))
  | ((with_reducible refine' isi_dp ok_int ?hx ?hh); (case hx => assumption))
  | ((with_reducible refine' isi_dp ok_str ?hx ?hh); (case hx => assumption))
  | ((with_reducible refine' isi_dp ok_tup ?hx ?hh); (case hx => assumption))
  | ((with_reducible refine' isi_dp ok_lst ?hx ?hh); (case hx => assumption))
  | ((with_reducible refine' x_dt ?hc ?hh); (case hc => rfl))
  | ((with_reducible refine' x_df ?hc ?hh); (case hc => rfl))))
def clsOf (x : Str) : Addr := if x = "BadNumber" then 81 else if x = "BadSizes" then 45 else if x = "BadText" then 160 else if x = "BadVolume" then 105 else if x = "Full" then 129 else if x = "Lost" then 141 else if x = "NoBlock" then 69 else if x = "NoDisk" then 57 else if x = "NoVolume" then 117 else 93
section
variable {K : PySem.W.Frag}
def kindB (K : PySem.W.Frag) (VE : Addr) (cls : Str → Addr) (x : Str) : Bool :=
  decide (PySem.W.nsIn K mainGlobals x = some (some (.ref (cls x)))) && decide (PySem.W.exmOne K (.ref (cls x)) (.ref VE) = some true) &&
  decide (PySem.W.findIn K (.ref (cls x)) "__getattribute__" = some (some (.builtin "BaseException.__getattribute__"))) && decide (PySem.W.findIn K (.ref (cls x)) "__getattr__" = some none) &&
  decide (PySem.W.subIn K (.ref (cls x)) (.type "BaseException") = some true) && decide (PySem.W.hasDictIn K (cls x) = true) && decide (PySem.W.findIn K (.ref (cls x)) "__class__" = some (some (.builtin "object.__class__"))) &&
  decide (PySem.W.specialIn K (.builtin "object.__class__") "__get__" = some (some (.builtin "getset_descriptor.__get__"))) && decide (PySem.W.takesIn K (.builtin "object.__class__") = some true) && decide (PySem.W.mroIn K (cls x) (.type "object") = some true) &&
  decide (PySem.W.kitOne K (.ref (cls x)) (.type "ValueError") = some true) && kindNames.all fun y => decide (PySem.W.kitOne K (.ref (cls x)) (.ref (cls y)) = some (decide (x = y)))
theorem trip_nil : TriplesOk ([] : List Value) := by trivial
theorem among_nil {pos : Pos} : codeAmong pos ([] : List Value) = none := rfl
theorem kinds_of {h : Heap} {mg : Str → Option Value} {VE : Addr} {cls : Str → Addr} (X : K.In h) (G : h.Ns mainGlobals mg) (ve : PySem.W.nsIn K mainGlobals "VolumeError" = some (some (.ref VE))) (b : kindNames.all (kindB K VE cls) = true) : (∀ R : Rt, R.K = K → R.mg = mg → Kinds R VE cls) ∧ ∀ x ∈ kindNames, ExcC K (cls x) := by
  have q : ∀ x ∈ kindNames, _ := List.all_eq_true.mp b
  simp only [kindB, Bool.and_eq_true, decide_eq_true_eq] at q
  have exc : ∀ x ∈ kindNames, ExcC K (cls x) := fun x hx => by
    obtain ⟨⟨⟨⟨⟨⟨⟨⟨⟨⟨⟨q1, q2⟩, q3⟩, q4⟩, q5⟩, q6⟩, q7⟩, q8⟩, q9⟩, q10⟩, q11⟩, q12⟩ := q x hx
    exact ⟨q3, q4, q5, q6, q7, q8, q9, q10⟩
  refine ⟨fun R e1 e2 => ?_, exc⟩
  subst e1
  subst e2
  refine ⟨PySem.W.mg_of X G ve, fun x hx => PySem.W.mg_of X G ?_, fun x hx => ?_, exc, fun x hx y hy => ?_, fun x hx => ?_⟩ <;>
  · obtain ⟨⟨⟨⟨⟨⟨⟨⟨⟨⟨⟨q1, q2⟩, q3⟩, q4⟩, q5⟩, q6⟩, q7⟩, q8⟩, q9⟩, q10⟩, q11⟩, q12⟩ := q x hx
    first | exact q1 | exact q2 | exact q11 | exact of_decide_eq_true (List.all_eq_true.mp q12 y hy)
theorem oex_of {C : Addr} {nm q : Str} {N : Addr} {bs bm : List Value} {sn sub ab col dd k0 k1 k2 k3 k5} (c : K.lookup C = some (excClassObj nm q C N bs bm true sn sub ab col dd k0 k1 k2 k3 k5 "ValueError.__new__")) (r : PySem.HandSPX.refsVE bm = true)
    (sa : PySem.W.findIn K (.ref C) "__setattr__" = some (some (.builtin "object.__setattr__"))) (ex : PySem.W.subIn K (.ref C) (.type "BaseException") = some true) (ty : PySem.W.typeIn K (.ref C) = some (.type "type")) (k : PySem.W.keepIn K (.ref C) = true) : OexC K C := ⟨⟨_, _, _, _, _, _, _, _, _, _, _, _, _, _, _, c, r⟩, sa, ex, ty, k⟩
theorem nam_of {C : Addr} {nm : Str} {o : Obj} {tk : Tok} (rd : PySem.W.readsIn K C (.type "type") = true) (at_ : PySem.W.findCls K (.ref C) (.type "type") "__name__" = some (.get (.builtin "getset_descriptor.__get__") (.builtin "type.__name__") (.ref C) (.type "type")))
    (l : K.lookup C = some o) (s : o.slots[2]? = some (some (.str nm tk))) : NameC K C nm := ⟨rd, at_, o, tk, l, s⟩
theorem init_of {x qual : Str} {st : Stmt} {f T : Addr} {oc : Value} {od an : Option Addr} {osl : Array (Option Value)} {kV doc pm cdv ct : Value} {C1 C2 C3 : Addr} {o : Obj} {n : Nat} {tk : Tok}
    (i1 : PySem.W.findIn K (.ref C1) "__init__" = some (some (.ref f))) (i2 : PySem.W.findIn K (.ref C2) "__init__" = some (some (.ref f))) (i3 : PySem.W.findIn K (.ref C3) "__init__" = some (some (.ref f))) (ty : PySem.W.typeIn K (.ref f) = some (.type "function"))
    (l : K.lookup f = some ⟨oc, od, .func (PySem.W.fnOf x qual (defArgs st) (defBody st) (defScope st) (.ref T) kV doc pm an cdv ct), osl⟩) (c : PySem.W.codeIn K cdv qual = true) (k : PySem.W.keepIn K (.ref f) = true) (lT : K.lookup T = some o) (oT : o.data = .seq #[.str "" tk] n) :
    ∃ f fd, FunD K x qual (defArgs st) (defBody st) (defScope st) [.str ""] [] f fd ∧ PySem.W.findIn K (.ref C1) "__init__" = some (some (.ref f)) ∧ PySem.W.findIn K (.ref C2) "__init__" = some (some (.ref f)) ∧ PySem.W.findIn K (.ref C3) "__init__" = some (some (.ref f)) ∧ PySem.W.typeIn K (.ref f) = some (.type "function") :=
  ⟨_, _, ⟨⟨_, _, _, _, _, _, _, _, _, _, rfl, l, c, .inr ⟨by simp, _, _, [.str "" tk], _, rfl, lT, oT, .cons ⟨tk, rfl⟩ .nil⟩, .inl rfl⟩, k⟩, i1, i2, i3, ty⟩
theorem int_of {x : Str} {i : Int} {t : Tok} (a : PySem.W.nsIn K mainGlobals x = some (some (.int i t))) : ∃ t, PySem.W.nsIn K mainGlobals x = some (some (.int i t)) := ⟨t, a⟩
theorem clsF_of {C : Addr} {nm : Str} {as : List Str} (a : PySem.W.nsIn K mainGlobals nm = some (some (.ref C))) (kp : PySem.W.keepIn K (.ref C) = true) (mk : PySem.W.makesIn K C = true) (pg : PySem.W.plainGet K C Str.empty = true) (hd : PySem.W.hasDictIn K C = true) (po : PySem.W.plainOver K C = true)
    (sa : PySem.W.findIn K (.ref C) "__setattr__" = some (some (.builtin "object.__setattr__"))) (na : (as.all fun f => decide (PySem.W.findIn K (.ref C) f = some none)) = true) : ClsF K C nm as := ⟨a, kp, mk, ⟨pg, hd, po, sa⟩, fun f hf => show PySem.W.findIn K (.ref C) f = some none from of_decide_eq_true (List.all_eq_true.mp na f hf)⟩
theorem binds1 {f : Addr} {fd : FuncData} (D : DefF K "law" (top2 36) f fd) (s : Shared) (u : Value) : BindsTo s fd ⟨[u], []⟩ [("_law_script", u)] := by
  obtain ⟨oc, od, kV, doc, pm, an, cdv, ct, osl, rfl, _⟩ := D.fn.ex
  exact .of_eq rfl
open Classical in
theorem law_start {ta : List (Addr × Str)} {H : Hp} {a : Addr} {ns : List Int} (hl : ns.length ≤ sizeLine) (ht : ∀ p ∈ ta, H p.1 = some (.tbl #[])) (hs : SqL K H a (ns.map V.int)) : spLaw2 K ta [.ref a] H (fun v _ => v = .bl true) fun _ _ _ => False := by
  let h : Hp := fun b => if H b = some (.tbl #[]) then H b else none
  have hh : ∀ b o, h b = some o → H b = some o ∧ H b = some (.tbl #[]) := fun b o e => by
    simp only [h] at e
    split at e
    · exact ⟨e, by assumption⟩
    · cases e
  have th : tabsOk ta h := fun p hp => by
    refine ⟨#[], ?_, ?_, fun pos cv e => ?_⟩
    · simp only [h, ht p hp, if_pos]
    · exact trip_nil
    · exact absurd e (by rw [among_nil]; intro z; cases z)
  have one : ∀ o, H a = some o → o ≠ .tbl #[] → SL (tabsOk ta :: [pt a o]) H := fun o e n => by
    refine ⟨h, fun b => if b = a then H a else none, fun b u q => (hh b u q).1, fun b u q => ?_, fun b u v q1 q2 => ?_, th, SL.one' (by show (if a = a then H a else none) = some o; rw [if_pos rfl]; exact e)⟩
    · have q : (if b = a then H a else none) = some u := q
      split at q
      · rename_i z
        rw [z]
        exact q
      · cases q
    · have q2 : (if b = a then H a else none) = some v := q2
      split at q2
      · rename_i z
        rw [z] at q1
        have := (hh a u q1).2
        rw [e] at this
        cases this
        exact absurd rfl n
      · cases q2
  rcases hs with (hs | ⟨o, hs⟩) | hs
  · exact ⟨a, ns, _, rfl, hl, one _ hs (fun z => by cases z), fun H' y => .inl (.inl (SL.get (.head _) y)), fun _ => rfl⟩
  · exact ⟨a, ns, _, rfl, hl, one _ hs (fun z => by cases z), fun H' y => .inl (.inr ⟨o, SL.get (.head _) y⟩), fun _ => rfl⟩
  · exact ⟨a, ns, [], rfl, hl, SL.one' (tabs_up _ _ (fun b o e => (hh b o e).1) th), fun H' _ => .inr hs, fun _ => rfl⟩
end

end Zw

set_option Elab.async false
set_option linter.all false
open PySem PySem.W PyProof.Rows
set_option maxRecDepth 100000 in
set_option maxHeartbeats 0 in
theorem PySem.Challenge.cw_volumehall_k02_benches_holds : PySem.Challenge.rw_volumehall_k02_benches.Holds := by
  w_on; o_law; k_head; (case hw => w_witness2)
  k_fill
  refine LamX.walk_ofTs (l := PySem.Challenge.rw_volumehall_k02_benches) (n := 63) (k := 17) (x := "_law_script") (CX := fun w => L2.CX PySem.Challenge.rw_volumehall_k02_benches.prog w) rfl (by decide) rfl ⟨rfl, by decide, by decide⟩ (fun w h Y => PySem.W.km_in_of Y) ?F ?C
  case C =>
    intro w H s e s' z
    obtain ⟨_, _, _, _, _, _, _, _, _, _, _, _, z⟩ := z
    exact z
  case F =>
    intro w mg fa h Y KX G hmg
    have hmg : mg "law" = some (.ref fa) := hmg
    have e_is_number : ∃ f fd, Zw.DefF (PySem.Challenge.cw_volumehall_k02_benches_holds.heap_39 w.params) "is_number" (Zw.top2 13) f fd := by
      refine' Zw.defF_of  ?zz1_0 ?zz1_1 ?zz1_2 ?zz1_3
      (case zz1_0 => (first | k_is | rfl | kernel_rfl | decide +kernel))
      (case zz1_1 => (first | k_is | rfl | kernel_rfl | decide +kernel))
      (case zz1_2 => (first | k_is | rfl | kernel_rfl | decide +kernel))
      (case zz1_3 => (first | k_is | rfl | kernel_rfl | decide +kernel))
    have e_copied : ∃ f fd, Zw.DefF (PySem.Challenge.cw_volumehall_k02_benches_holds.heap_39 w.params) "copied" (Zw.top2 14) f fd := by
      refine' Zw.defF_of  ?zz2_0 ?zz2_1 ?zz2_2 ?zz2_3
      (case zz2_0 => (first | k_is | rfl | kernel_rfl | decide +kernel))
      (case zz2_1 => (first | k_is | rfl | kernel_rfl | decide +kernel))
      (case zz2_2 => (first | k_is | rfl | kernel_rfl | decide +kernel))
      (case zz2_3 => (first | k_is | rfl | kernel_rfl | decide +kernel))
    have e_check_pieces : ∃ f fd, Zw.DefF (PySem.Challenge.cw_volumehall_k02_benches_holds.heap_39 w.params) "check_pieces" (Zw.top2 22) f fd := by
      refine' Zw.defF_of  ?zz3_0 ?zz3_1 ?zz3_2 ?zz3_3
      (case zz3_0 => (first | k_is | rfl | kernel_rfl | decide +kernel))
      (case zz3_1 => (first | k_is | rfl | kernel_rfl | decide +kernel))
      (case zz3_2 => (first | k_is | rfl | kernel_rfl | decide +kernel))
      (case zz3_3 => (first | k_is | rfl | kernel_rfl | decide +kernel))
    have e_check_block : ∃ f fd, Zw.DefF (PySem.Challenge.cw_volumehall_k02_benches_holds.heap_39 w.params) "check_block" (Zw.top2 23) f fd := by
      refine' Zw.defF_of  ?zz4_0 ?zz4_1 ?zz4_2 ?zz4_3
      (case zz4_0 => (first | k_is | rfl | kernel_rfl | decide +kernel))
      (case zz4_1 => (first | k_is | rfl | kernel_rfl | decide +kernel))
      (case zz4_2 => (first | k_is | rfl | kernel_rfl | decide +kernel))
      (case zz4_3 => (first | k_is | rfl | kernel_rfl | decide +kernel))
    have e_begun : ∃ f fd, Zw.DefF (PySem.Challenge.cw_volumehall_k02_benches_holds.heap_39 w.params) "_law_begun" (Zw.top2 26) f fd := by
      refine' Zw.defF_of  ?zz5_0 ?zz5_1 ?zz5_2 ?zz5_3
      (case zz5_0 => (first | k_is | rfl | kernel_rfl | decide +kernel))
      (case zz5_1 => (first | k_is | rfl | kernel_rfl | decide +kernel))
      (case zz5_2 => (first | k_is | rfl | kernel_rfl | decide +kernel))
      (case zz5_3 => (first | k_is | rfl | kernel_rfl | decide +kernel))
    have e_take : ∃ f fd, Zw.DefF (PySem.Challenge.cw_volumehall_k02_benches_holds.heap_39 w.params) "_law_take" (Zw.top2 27) f fd := by
      refine' Zw.defF_of  ?zz6_0 ?zz6_1 ?zz6_2 ?zz6_3
      (case zz6_0 => (first | k_is | rfl | kernel_rfl | decide +kernel))
      (case zz6_1 => (first | k_is | rfl | kernel_rfl | decide +kernel))
      (case zz6_2 => (first | k_is | rfl | kernel_rfl | decide +kernel))
      (case zz6_3 => (first | k_is | rfl | kernel_rfl | decide +kernel))
    have e_alike : ∃ f fd, Zw.DefF (PySem.Challenge.cw_volumehall_k02_benches_holds.heap_39 w.params) "_law_alike" (Zw.top2 28) f fd := by
      refine' Zw.defF_of  ?zz7_0 ?zz7_1 ?zz7_2 ?zz7_3
      (case zz7_0 => (first | k_is | rfl | kernel_rfl | decide +kernel))
      (case zz7_1 => (first | k_is | rfl | kernel_rfl | decide +kernel))
      (case zz7_2 => (first | k_is | rfl | kernel_rfl | decide +kernel))
      (case zz7_3 => (first | k_is | rfl | kernel_rfl | decide +kernel))
    have e_told : ∃ f fd, Zw.DefF (PySem.Challenge.cw_volumehall_k02_benches_holds.heap_39 w.params) "_law_told" (Zw.top2 29) f fd := by
      refine' Zw.defF_of  ?zz8_0 ?zz8_1 ?zz8_2 ?zz8_3
      (case zz8_0 => (first | k_is | rfl | kernel_rfl | decide +kernel))
      (case zz8_1 => (first | k_is | rfl | kernel_rfl | decide +kernel))
      (case zz8_2 => (first | k_is | rfl | kernel_rfl | decide +kernel))
      (case zz8_3 => (first | k_is | rfl | kernel_rfl | decide +kernel))
    have e_all : ∃ f fd, Zw.DefF (PySem.Challenge.cw_volumehall_k02_benches_holds.heap_39 w.params) "_law_all" (Zw.top2 30) f fd := by
      refine' Zw.defF_of  ?zz9_0 ?zz9_1 ?zz9_2 ?zz9_3
      (case zz9_0 => (first | k_is | rfl | kernel_rfl | decide +kernel))
      (case zz9_1 => (first | k_is | rfl | kernel_rfl | decide +kernel))
      (case zz9_2 => (first | k_is | rfl | kernel_rfl | decide +kernel))
      (case zz9_3 => (first | k_is | rfl | kernel_rfl | decide +kernel))
    have e_deed : ∃ f fd, Zw.DefF (PySem.Challenge.cw_volumehall_k02_benches_holds.heap_39 w.params) "_law_deed" (Zw.top2 31) f fd := by
      refine' Zw.defF_of  ?zz10_0 ?zz10_1 ?zz10_2 ?zz10_3
      (case zz10_0 => (first | k_is | rfl | kernel_rfl | decide +kernel))
      (case zz10_1 => (first | k_is | rfl | kernel_rfl | decide +kernel))
      (case zz10_2 => (first | k_is | rfl | kernel_rfl | decide +kernel))
      (case zz10_3 => (first | k_is | rfl | kernel_rfl | decide +kernel))
    have e_disk : ∃ f fd, Zw.DefF (PySem.Challenge.cw_volumehall_k02_benches_holds.heap_39 w.params) "_law_disk" (Zw.top2 32) f fd := by
      refine' Zw.defF_of  ?zz11_0 ?zz11_1 ?zz11_2 ?zz11_3
      (case zz11_0 => (first | k_is | rfl | kernel_rfl | decide +kernel))
      (case zz11_1 => (first | k_is | rfl | kernel_rfl | decide +kernel))
      (case zz11_2 => (first | k_is | rfl | kernel_rfl | decide +kernel))
      (case zz11_3 => (first | k_is | rfl | kernel_rfl | decide +kernel))
    have e_law : ∃ f fd, Zw.DefF (PySem.Challenge.cw_volumehall_k02_benches_holds.heap_39 w.params) "law" (Zw.top2 36) f fd := by
      refine' Zw.defF_of  ?zz12_0 ?zz12_1 ?zz12_2 ?zz12_3
      (case zz12_0 => (first | k_is | rfl | kernel_rfl | decide +kernel))
      (case zz12_1 => (first | k_is | rfl | kernel_rfl | decide +kernel))
      (case zz12_2 => (first | k_is | rfl | kernel_rfl | decide +kernel))
      (case zz12_3 => (first | k_is | rfl | kernel_rfl | decide +kernel))
    have e_comes : ∃ f fd, Zw.DefL (PySem.Challenge.cw_volumehall_k02_benches_holds.heap_39 w.params) "_law_comes" (Zw.top2 33) f 375 fd := by
      refine' Zw.defL_of  ?zz13_0 ?zz13_1 ?zz13_2 ?zz13_3
      (case zz13_0 => (first | k_is | rfl | kernel_rfl | decide +kernel))
      (case zz13_1 => (first | k_is | rfl | kernel_rfl | decide +kernel))
      (case zz13_2 => (first | k_is | rfl | kernel_rfl | decide +kernel))
      (case zz13_3 => (first | k_is | rfl | kernel_rfl | decide +kernel))
    have e_turn : ∃ f fd, Zw.DefL (PySem.Challenge.cw_volumehall_k02_benches_holds.heap_39 w.params) "_law_turn" (Zw.top2 34) f 382 fd := by
      refine' Zw.defL_of  ?zz14_0 ?zz14_1 ?zz14_2 ?zz14_3
      (case zz14_0 => (first | k_is | rfl | kernel_rfl | decide +kernel))
      (case zz14_1 => (first | k_is | rfl | kernel_rfl | decide +kernel))
      (case zz14_2 => (first | k_is | rfl | kernel_rfl | decide +kernel))
      (case zz14_3 => (first | k_is | rfl | kernel_rfl | decide +kernel))
    have e_is_long : ∃ f fd, Zw.DefL (PySem.Challenge.cw_volumehall_k02_benches_holds.heap_39 w.params) "_law_is_long" (Zw.top2 35) f 389 fd := by
      refine' Zw.defL_of  ?zz15_0 ?zz15_1 ?zz15_2 ?zz15_3
      (case zz15_0 => (first | k_is | rfl | kernel_rfl | decide +kernel))
      (case zz15_1 => (first | k_is | rfl | kernel_rfl | decide +kernel))
      (case zz15_2 => (first | k_is | rfl | kernel_rfl | decide +kernel))
      (case zz15_3 => (first | k_is | rfl | kernel_rfl | decide +kernel))
    have e_Bench_init : ∃ f fd, Zw.MetF (PySem.Challenge.cw_volumehall_k02_benches_holds.heap_39 w.params) 320 "__init__" "Bench.__init__" (Zw.inClass (Zw.top2 24) 0) f fd := by
      refine' Zw.metF_of  ?zz16_0 ?zz16_1 ?zz16_2 ?zz16_3 ?zz16_4
      (case zz16_0 => (first | k_is | rfl | kernel_rfl | decide +kernel))
      (case zz16_1 => (first | k_is | rfl | kernel_rfl | decide +kernel))
      (case zz16_2 => (first | k_is | rfl | kernel_rfl | decide +kernel))
      (case zz16_3 => (first | k_is | rfl | kernel_rfl | decide +kernel))
      (case zz16_4 => (first | k_is | rfl | kernel_rfl | decide +kernel))
    have e_Bench_check_going : ∃ f fd, Zw.MetF (PySem.Challenge.cw_volumehall_k02_benches_holds.heap_39 w.params) 320 "_check_going" "Bench._check_going" (Zw.inClass (Zw.top2 24) 1) f fd := by
      refine' Zw.metF_of  ?zz17_0 ?zz17_1 ?zz17_2 ?zz17_3 ?zz17_4
      (case zz17_0 => (first | k_is | rfl | kernel_rfl | decide +kernel))
      (case zz17_1 => (first | k_is | rfl | kernel_rfl | decide +kernel))
      (case zz17_2 => (first | k_is | rfl | kernel_rfl | decide +kernel))
      (case zz17_3 => (first | k_is | rfl | kernel_rfl | decide +kernel))
      (case zz17_4 => (first | k_is | rfl | kernel_rfl | decide +kernel))
    have e_Bench_is_place : ∃ f fd, Zw.MetF (PySem.Challenge.cw_volumehall_k02_benches_holds.heap_39 w.params) 320 "_is_place" "Bench._is_place" (Zw.inClass (Zw.top2 24) 2) f fd := by
      refine' Zw.metF_of  ?zz18_0 ?zz18_1 ?zz18_2 ?zz18_3 ?zz18_4
      (case zz18_0 => (first | k_is | rfl | kernel_rfl | decide +kernel))
      (case zz18_1 => (first | k_is | rfl | kernel_rfl | decide +kernel))
      (case zz18_2 => (first | k_is | rfl | kernel_rfl | decide +kernel))
      (case zz18_3 => (first | k_is | rfl | kernel_rfl | decide +kernel))
      (case zz18_4 => (first | k_is | rfl | kernel_rfl | decide +kernel))
    have e_Bench_found : ∃ f fd, Zw.MetF (PySem.Challenge.cw_volumehall_k02_benches_holds.heap_39 w.params) 320 "_found" "Bench._found" (Zw.inClass (Zw.top2 24) 3) f fd := by
      refine' Zw.metF_of  ?zz19_0 ?zz19_1 ?zz19_2 ?zz19_3 ?zz19_4
      (case zz19_0 => (first | k_is | rfl | kernel_rfl | decide +kernel))
      (case zz19_1 => (first | k_is | rfl | kernel_rfl | decide +kernel))
      (case zz19_2 => (first | k_is | rfl | kernel_rfl | decide +kernel))
      (case zz19_3 => (first | k_is | rfl | kernel_rfl | decide +kernel))
      (case zz19_4 => (first | k_is | rfl | kernel_rfl | decide +kernel))
    have e_Bench_begin_deed : ∃ f fd, Zw.MetF (PySem.Challenge.cw_volumehall_k02_benches_holds.heap_39 w.params) 320 "_begin_deed" "Bench._begin_deed" (Zw.inClass (Zw.top2 24) 4) f fd := by
      refine' Zw.metF_of  ?zz20_0 ?zz20_1 ?zz20_2 ?zz20_3 ?zz20_4
      (case zz20_0 => (first | k_is | rfl | kernel_rfl | decide +kernel))
      (case zz20_1 => (first | k_is | rfl | kernel_rfl | decide +kernel))
      (case zz20_2 => (first | k_is | rfl | kernel_rfl | decide +kernel))
      (case zz20_3 => (first | k_is | rfl | kernel_rfl | decide +kernel))
      (case zz20_4 => (first | k_is | rfl | kernel_rfl | decide +kernel))
    have e_Bench_get : ∃ f fd, Zw.MetF (PySem.Challenge.cw_volumehall_k02_benches_holds.heap_39 w.params) 320 "get" "Bench.get" (Zw.inClass (Zw.top2 24) 5) f fd := by
      refine' Zw.metF_of  ?zz21_0 ?zz21_1 ?zz21_2 ?zz21_3 ?zz21_4
      (case zz21_0 => (first | k_is | rfl | kernel_rfl | decide +kernel))
      (case zz21_1 => (first | k_is | rfl | kernel_rfl | decide +kernel))
      (case zz21_2 => (first | k_is | rfl | kernel_rfl | decide +kernel))
      (case zz21_3 => (first | k_is | rfl | kernel_rfl | decide +kernel))
      (case zz21_4 => (first | k_is | rfl | kernel_rfl | decide +kernel))
    have e_Bench_put : ∃ f fd, Zw.MetF (PySem.Challenge.cw_volumehall_k02_benches_holds.heap_39 w.params) 320 "put" "Bench.put" (Zw.inClass (Zw.top2 24) 6) f fd := by
      refine' Zw.metF_of  ?zz22_0 ?zz22_1 ?zz22_2 ?zz22_3 ?zz22_4
      (case zz22_0 => (first | k_is | rfl | kernel_rfl | decide +kernel))
      (case zz22_1 => (first | k_is | rfl | kernel_rfl | decide +kernel))
      (case zz22_2 => (first | k_is | rfl | kernel_rfl | decide +kernel))
      (case zz22_3 => (first | k_is | rfl | kernel_rfl | decide +kernel))
      (case zz22_4 => (first | k_is | rfl | kernel_rfl | decide +kernel))
    have e_Bench_sheet : ∃ f fd, Zw.MetF (PySem.Challenge.cw_volumehall_k02_benches_holds.heap_39 w.params) 320 "sheet" "Bench.sheet" (Zw.inClass (Zw.top2 24) 7) f fd := by
      refine' Zw.metF_of  ?zz23_0 ?zz23_1 ?zz23_2 ?zz23_3 ?zz23_4
      (case zz23_0 => (first | k_is | rfl | kernel_rfl | decide +kernel))
      (case zz23_1 => (first | k_is | rfl | kernel_rfl | decide +kernel))
      (case zz23_2 => (first | k_is | rfl | kernel_rfl | decide +kernel))
      (case zz23_3 => (first | k_is | rfl | kernel_rfl | decide +kernel))
      (case zz23_4 => (first | k_is | rfl | kernel_rfl | decide +kernel))
    have e_Bench_lay : ∃ f fd, Zw.MetF (PySem.Challenge.cw_volumehall_k02_benches_holds.heap_39 w.params) 320 "lay" "Bench.lay" (Zw.inClass (Zw.top2 24) 8) f fd := by
      refine' Zw.metF_of  ?zz24_0 ?zz24_1 ?zz24_2 ?zz24_3 ?zz24_4
      (case zz24_0 => (first | k_is | rfl | kernel_rfl | decide +kernel))
      (case zz24_1 => (first | k_is | rfl | kernel_rfl | decide +kernel))
      (case zz24_2 => (first | k_is | rfl | kernel_rfl | decide +kernel))
      (case zz24_3 => (first | k_is | rfl | kernel_rfl | decide +kernel))
      (case zz24_4 => (first | k_is | rfl | kernel_rfl | decide +kernel))
    have e_Bench_lose : ∃ f fd, Zw.MetF (PySem.Challenge.cw_volumehall_k02_benches_holds.heap_39 w.params) 320 "lose" "Bench.lose" (Zw.inClass (Zw.top2 24) 9) f fd := by
      refine' Zw.metF_of  ?zz25_0 ?zz25_1 ?zz25_2 ?zz25_3 ?zz25_4
      (case zz25_0 => (first | k_is | rfl | kernel_rfl | decide +kernel))
      (case zz25_1 => (first | k_is | rfl | kernel_rfl | decide +kernel))
      (case zz25_2 => (first | k_is | rfl | kernel_rfl | decide +kernel))
      (case zz25_3 => (first | k_is | rfl | kernel_rfl | decide +kernel))
      (case zz25_4 => (first | k_is | rfl | kernel_rfl | decide +kernel))
    have e_Bench_bring : ∃ f fd, Zw.MetF (PySem.Challenge.cw_volumehall_k02_benches_holds.heap_39 w.params) 320 "bring" "Bench.bring" (Zw.inClass (Zw.top2 24) 10) f fd := by
      refine' Zw.metF_of  ?zz26_0 ?zz26_1 ?zz26_2 ?zz26_3 ?zz26_4
      (case zz26_0 => (first | k_is | rfl | kernel_rfl | decide +kernel))
      (case zz26_1 => (first | k_is | rfl | kernel_rfl | decide +kernel))
      (case zz26_2 => (first | k_is | rfl | kernel_rfl | decide +kernel))
      (case zz26_3 => (first | k_is | rfl | kernel_rfl | decide +kernel))
      (case zz26_4 => (first | k_is | rfl | kernel_rfl | decide +kernel))
    have e_Bench_sizes : ∃ f fd, Zw.MetF (PySem.Challenge.cw_volumehall_k02_benches_holds.heap_39 w.params) 320 "sizes" "Bench.sizes" (Zw.inClass (Zw.top2 24) 11) f fd := by
      refine' Zw.metF_of  ?zz27_0 ?zz27_1 ?zz27_2 ?zz27_3 ?zz27_4
      (case zz27_0 => (first | k_is | rfl | kernel_rfl | decide +kernel))
      (case zz27_1 => (first | k_is | rfl | kernel_rfl | decide +kernel))
      (case zz27_2 => (first | k_is | rfl | kernel_rfl | decide +kernel))
      (case zz27_3 => (first | k_is | rfl | kernel_rfl | decide +kernel))
      (case zz27_4 => (first | k_is | rfl | kernel_rfl | decide +kernel))
    have e_Bench_deeds : ∃ f fd, Zw.MetF (PySem.Challenge.cw_volumehall_k02_benches_holds.heap_39 w.params) 320 "deeds" "Bench.deeds" (Zw.inClass (Zw.top2 24) 12) f fd := by
      refine' Zw.metF_of  ?zz28_0 ?zz28_1 ?zz28_2 ?zz28_3 ?zz28_4
      (case zz28_0 => (first | k_is | rfl | kernel_rfl | decide +kernel))
      (case zz28_1 => (first | k_is | rfl | kernel_rfl | decide +kernel))
      (case zz28_2 => (first | k_is | rfl | kernel_rfl | decide +kernel))
      (case zz28_3 => (first | k_is | rfl | kernel_rfl | decide +kernel))
      (case zz28_4 => (first | k_is | rfl | kernel_rfl | decide +kernel))
    have e_Bench_arm : ∃ f fd, Zw.MetF (PySem.Challenge.cw_volumehall_k02_benches_holds.heap_39 w.params) 320 "arm" "Bench.arm" (Zw.inClass (Zw.top2 24) 13) f fd := by
      refine' Zw.metF_of  ?zz29_0 ?zz29_1 ?zz29_2 ?zz29_3 ?zz29_4
      (case zz29_0 => (first | k_is | rfl | kernel_rfl | decide +kernel))
      (case zz29_1 => (first | k_is | rfl | kernel_rfl | decide +kernel))
      (case zz29_2 => (first | k_is | rfl | kernel_rfl | decide +kernel))
      (case zz29_3 => (first | k_is | rfl | kernel_rfl | decide +kernel))
      (case zz29_4 => (first | k_is | rfl | kernel_rfl | decide +kernel))
    have e_Bench_again : ∃ f fd, Zw.MetF (PySem.Challenge.cw_volumehall_k02_benches_holds.heap_39 w.params) 320 "again" "Bench.again" (Zw.inClass (Zw.top2 24) 14) f fd := by
      refine' Zw.metF_of  ?zz30_0 ?zz30_1 ?zz30_2 ?zz30_3 ?zz30_4
      (case zz30_0 => (first | k_is | rfl | kernel_rfl | decide +kernel))
      (case zz30_1 => (first | k_is | rfl | kernel_rfl | decide +kernel))
      (case zz30_2 => (first | k_is | rfl | kernel_rfl | decide +kernel))
      (case zz30_3 => (first | k_is | rfl | kernel_rfl | decide +kernel))
      (case zz30_4 => (first | k_is | rfl | kernel_rfl | decide +kernel))
    have e_Disk_init : ∃ f fd, Zw.MetF (PySem.Challenge.cw_volumehall_k02_benches_holds.heap_39 w.params) 191 "__init__" "Disk.__init__" (Zw.inClass (Zw.top2 21) 0) f fd := by
      refine' Zw.metF_of  ?zz31_0 ?zz31_1 ?zz31_2 ?zz31_3 ?zz31_4
      (case zz31_0 => (first | k_is | rfl | kernel_rfl | decide +kernel))
      (case zz31_1 => (first | k_is | rfl | kernel_rfl | decide +kernel))
      (case zz31_2 => (first | k_is | rfl | kernel_rfl | decide +kernel))
      (case zz31_3 => (first | k_is | rfl | kernel_rfl | decide +kernel))
      (case zz31_4 => (first | k_is | rfl | kernel_rfl | decide +kernel))
    have CB : Zw.ClsF (PySem.Challenge.cw_volumehall_k02_benches_holds.heap_39 w.params) 320 "Bench" ["_places", "_done", "_left", "_stopped"] := by
      refine' Zw.clsF_of  ?zz32_0 ?zz32_1 ?zz32_2 ?zz32_3 ?zz32_4 ?zz32_5 ?zz32_6 ?zz32_7
      (case zz32_0 => (first | k_is | rfl | kernel_rfl | decide +kernel))
      (case zz32_1 => (first | k_is | rfl | kernel_rfl | decide +kernel))
      (case zz32_2 => (first | k_is | rfl | kernel_rfl | decide +kernel))
      (case zz32_3 => (first | k_is | rfl | kernel_rfl | decide +kernel))
      (case zz32_4 => (first | k_is | rfl | kernel_rfl | decide +kernel))
      (case zz32_5 => (first | k_is | rfl | kernel_rfl | decide +kernel))
      (case zz32_6 => (first | k_is | rfl | kernel_rfl | decide +kernel))
      (case zz32_7 => (first | k_is | rfl | kernel_rfl | decide +kernel))
    have CD : Zw.ClsF (PySem.Challenge.cw_volumehall_k02_benches_holds.heap_39 w.params) 191 "Disk" ["blocks", "laid"] := by
      refine' Zw.clsF_of  ?zz33_0 ?zz33_1 ?zz33_2 ?zz33_3 ?zz33_4 ?zz33_5 ?zz33_6 ?zz33_7
      (case zz33_0 => (first | k_is | rfl | kernel_rfl | decide +kernel))
      (case zz33_1 => (first | k_is | rfl | kernel_rfl | decide +kernel))
      (case zz33_2 => (first | k_is | rfl | kernel_rfl | decide +kernel))
      (case zz33_3 => (first | k_is | rfl | kernel_rfl | decide +kernel))
      (case zz33_4 => (first | k_is | rfl | kernel_rfl | decide +kernel))
      (case zz33_5 => (first | k_is | rfl | kernel_rfl | decide +kernel))
      (case zz33_6 => (first | k_is | rfl | kernel_rfl | decide +kernel))
      (case zz33_7 => (first | k_is | rfl | kernel_rfl | decide +kernel))
    have ve : PySem.W.nsIn (PySem.Challenge.cw_volumehall_k02_benches_holds.heap_39 w.params) mainGlobals "VolumeError" = some (some (.ref 32)) := by (first | k_is | rfl | kernel_rfl | decide +kernel)
    have KNB : Zw.kindNames.all (Zw.kindB (PySem.Challenge.cw_volumehall_k02_benches_holds.heap_39 w.params) 32 Zw.clsOf) = true := by kernel_rfl
    obtain ⟨KN, EX⟩ := Zw.kinds_of KX G ve KNB
    have ox_BadSizes : L2.OexC (PySem.Challenge.cw_volumehall_k02_benches_holds.heap_39 w.params) 45 := by
      refine' Zw.oex_of  ?zz34_0 ?zz34_1 ?zz34_2 ?zz34_3 ?zz34_4 ?zz34_5
      (case zz34_0 => (first | k_is | rfl | kernel_rfl | decide +kernel))
      (case zz34_1 => (first | k_is | rfl | kernel_rfl | decide +kernel))
      (case zz34_2 => (first | k_is | rfl | kernel_rfl | decide +kernel))
      (case zz34_3 => (first | k_is | rfl | kernel_rfl | decide +kernel))
      (case zz34_4 => (first | k_is | rfl | kernel_rfl | decide +kernel))
      (case zz34_5 => (first | k_is | rfl | kernel_rfl | decide +kernel))
    have nm_BadSizes : Zw.NameC (PySem.Challenge.cw_volumehall_k02_benches_holds.heap_39 w.params) 45 "BadSizes" := by
      refine' Zw.nam_of  ?zz35_0 ?zz35_1 ?zz35_2 ?zz35_3
      (case zz35_0 => (first | k_is | rfl | kernel_rfl | decide +kernel))
      (case zz35_1 => (first | k_is | rfl | kernel_rfl | decide +kernel))
      (case zz35_2 => (first | k_is | rfl | kernel_rfl | decide +kernel))
      (case zz35_3 => (first | k_is | rfl | kernel_rfl | decide +kernel))
    have kn_BadSizes : PySem.W.findIn (PySem.Challenge.cw_volumehall_k02_benches_holds.heap_39 w.params) (.ref 45) "kind" = some none := by (first | k_is | rfl | kernel_rfl | decide +kernel)
    have ns_BadSizes : PySem.W.nsIn (PySem.Challenge.cw_volumehall_k02_benches_holds.heap_39 w.params) mainGlobals "BadSizes" = some (some (.ref 45)) := by (first | k_is | rfl | kernel_rfl | decide +kernel)
    have ox_NoDisk : L2.OexC (PySem.Challenge.cw_volumehall_k02_benches_holds.heap_39 w.params) 57 := by
      refine' Zw.oex_of  ?zz36_0 ?zz36_1 ?zz36_2 ?zz36_3 ?zz36_4 ?zz36_5
      (case zz36_0 => (first | k_is | rfl | kernel_rfl | decide +kernel))
      (case zz36_1 => (first | k_is | rfl | kernel_rfl | decide +kernel))
      (case zz36_2 => (first | k_is | rfl | kernel_rfl | decide +kernel))
      (case zz36_3 => (first | k_is | rfl | kernel_rfl | decide +kernel))
      (case zz36_4 => (first | k_is | rfl | kernel_rfl | decide +kernel))
      (case zz36_5 => (first | k_is | rfl | kernel_rfl | decide +kernel))
    have nm_NoDisk : Zw.NameC (PySem.Challenge.cw_volumehall_k02_benches_holds.heap_39 w.params) 57 "NoDisk" := by
      refine' Zw.nam_of  ?zz37_0 ?zz37_1 ?zz37_2 ?zz37_3
      (case zz37_0 => (first | k_is | rfl | kernel_rfl | decide +kernel))
      (case zz37_1 => (first | k_is | rfl | kernel_rfl | decide +kernel))
      (case zz37_2 => (first | k_is | rfl | kernel_rfl | decide +kernel))
      (case zz37_3 => (first | k_is | rfl | kernel_rfl | decide +kernel))
    have kn_NoDisk : PySem.W.findIn (PySem.Challenge.cw_volumehall_k02_benches_holds.heap_39 w.params) (.ref 57) "kind" = some none := by (first | k_is | rfl | kernel_rfl | decide +kernel)
    have ns_NoDisk : PySem.W.nsIn (PySem.Challenge.cw_volumehall_k02_benches_holds.heap_39 w.params) mainGlobals "NoDisk" = some (some (.ref 57)) := by (first | k_is | rfl | kernel_rfl | decide +kernel)
    have ox_Stopped : L2.OexC (PySem.Challenge.cw_volumehall_k02_benches_holds.heap_39 w.params) 93 := by
      refine' Zw.oex_of  ?zz38_0 ?zz38_1 ?zz38_2 ?zz38_3 ?zz38_4 ?zz38_5
      (case zz38_0 => (first | k_is | rfl | kernel_rfl | decide +kernel))
      (case zz38_1 => (first | k_is | rfl | kernel_rfl | decide +kernel))
      (case zz38_2 => (first | k_is | rfl | kernel_rfl | decide +kernel))
      (case zz38_3 => (first | k_is | rfl | kernel_rfl | decide +kernel))
      (case zz38_4 => (first | k_is | rfl | kernel_rfl | decide +kernel))
      (case zz38_5 => (first | k_is | rfl | kernel_rfl | decide +kernel))
    have nm_Stopped : Zw.NameC (PySem.Challenge.cw_volumehall_k02_benches_holds.heap_39 w.params) 93 "Stopped" := by
      refine' Zw.nam_of  ?zz39_0 ?zz39_1 ?zz39_2 ?zz39_3
      (case zz39_0 => (first | k_is | rfl | kernel_rfl | decide +kernel))
      (case zz39_1 => (first | k_is | rfl | kernel_rfl | decide +kernel))
      (case zz39_2 => (first | k_is | rfl | kernel_rfl | decide +kernel))
      (case zz39_3 => (first | k_is | rfl | kernel_rfl | decide +kernel))
    have kn_Stopped : PySem.W.findIn (PySem.Challenge.cw_volumehall_k02_benches_holds.heap_39 w.params) (.ref 93) "kind" = some none := by (first | k_is | rfl | kernel_rfl | decide +kernel)
    have ns_Stopped : PySem.W.nsIn (PySem.Challenge.cw_volumehall_k02_benches_holds.heap_39 w.params) mainGlobals "Stopped" = some (some (.ref 93)) := by (first | k_is | rfl | kernel_rfl | decide +kernel)
    have e_I : ∃ f fd, L2.FunD (PySem.Challenge.cw_volumehall_k02_benches_holds.heap_39 w.params) "__init__" "VolumeError.__init__" (L2.defArgs (Zw.inClass (Zw.top2 1) 0)) (L2.defBody (Zw.inClass (Zw.top2 1) 0)) (L2.defScope (Zw.inClass (Zw.top2 1) 0)) [.str ""] [] f fd ∧ PySem.W.findIn (PySem.Challenge.cw_volumehall_k02_benches_holds.heap_39 w.params) (.ref 45) "__init__" = some (some (.ref f)) ∧ PySem.W.findIn (PySem.Challenge.cw_volumehall_k02_benches_holds.heap_39 w.params) (.ref 57) "__init__" = some (some (.ref f)) ∧ PySem.W.findIn (PySem.Challenge.cw_volumehall_k02_benches_holds.heap_39 w.params) (.ref 93) "__init__" = some (some (.ref f)) ∧ PySem.W.typeIn (PySem.Challenge.cw_volumehall_k02_benches_holds.heap_39 w.params) (.ref f) = some (.type "function") := by
      refine' Zw.init_of (st := Zw.inClass (Zw.top2 1) 0) ?zI0 ?zI1 ?zI2 ?zI3 ?zI4 ?zI5 ?zI6 ?zI7 ?zI8
      (case zI0 => (first | k_is | rfl | kernel_rfl | decide +kernel))
      (case zI1 => (first | k_is | rfl | kernel_rfl | decide +kernel))
      (case zI2 => (first | k_is | rfl | kernel_rfl | decide +kernel))
      (case zI3 => (first | k_is | rfl | kernel_rfl | decide +kernel))
      (case zI4 => (first | k_is | rfl | kernel_rfl | decide +kernel))
      (case zI5 => (first | k_is | rfl | kernel_rfl | decide +kernel))
      (case zI6 => (first | k_is | rfl | kernel_rfl | decide +kernel))
      (case zI7 => (first | k_is | rfl | kernel_rfl | decide +kernel))
      (case zI8 => (first | k_is | rfl | kernel_rfl | decide +kernel))
    have vV : PySem.W.findCls (PySem.Challenge.cw_volumehall_k02_benches_holds.heap_39 w.params) (.type "ValueError") (.type "type") "__init__" = some (.val (.builtin "ValueError.__init__")) := by (first | k_is | rfl | kernel_rfl | decide +kernel)
    have i1 : ∃ t, PySem.W.nsIn (PySem.Challenge.cw_volumehall_k02_benches_holds.heap_39 w.params) mainGlobals "MOST_DISKS" = some (some (.int 6 t)) := by
      refine' Zw.int_of ?zi1
      (case zi1 => k_is)
    have i2 : ∃ t, PySem.W.nsIn (PySem.Challenge.cw_volumehall_k02_benches_holds.heap_39 w.params) mainGlobals "MOST_PIECES" = some (some (.int 12 t)) := by
      refine' Zw.int_of ?zi2
      (case zi2 => k_is)
    have i3 : ∃ t, PySem.W.nsIn (PySem.Challenge.cw_volumehall_k02_benches_holds.heap_39 w.params) mainGlobals "BLOCKS" = some (some (.int 4 t)) := by
      refine' Zw.int_of ?zi3
      (case zi3 => k_is)
    have i4 : ∃ t, PySem.W.nsIn (PySem.Challenge.cw_volumehall_k02_benches_holds.heap_39 w.params) mainGlobals "MOST_NUMBER" = some (some (.int 999 t)) := by
      refine' Zw.int_of ?zi4
      (case zi4 => k_is)
    have i5 : ∃ t, PySem.W.nsIn (PySem.Challenge.cw_volumehall_k02_benches_holds.heap_39 w.params) mainGlobals "MOST_DEEDS" = some (some (.int 1000000 t)) := by
      refine' Zw.int_of ?zi5
      (case zi5 => k_is)
    have zB : (Zw.bltNames.all fun x => decide (PySem.W.nsIn (PySem.Challenge.cw_volumehall_k02_benches_holds.heap_39 w.params) mainGlobals x = some none)) = true := by kernel_rfl
    obtain ⟨f_is_number, d_is_number, D_is_number⟩ := e_is_number
    obtain ⟨f_copied, d_copied, D_copied⟩ := e_copied
    obtain ⟨f_check_pieces, d_check_pieces, D_check_pieces⟩ := e_check_pieces
    obtain ⟨f_check_block, d_check_block, D_check_block⟩ := e_check_block
    obtain ⟨f_begun, d_begun, D_begun⟩ := e_begun
    obtain ⟨f_take, d_take, D_take⟩ := e_take
    obtain ⟨f_alike, d_alike, D_alike⟩ := e_alike
    obtain ⟨f_told, d_told, D_told⟩ := e_told
    obtain ⟨f_all, d_all, D_all⟩ := e_all
    obtain ⟨f_deed, d_deed, D_deed⟩ := e_deed
    obtain ⟨f_disk, d_disk, D_disk⟩ := e_disk
    obtain ⟨f_law, d_law, D_law⟩ := e_law
    obtain ⟨f_comes, d_comes, D_comes⟩ := e_comes
    obtain ⟨f_turn, d_turn, D_turn⟩ := e_turn
    obtain ⟨f_is_long, d_is_long, D_is_long⟩ := e_is_long
    obtain ⟨f_Bench_init, d_Bench_init, D_Bench_init⟩ := e_Bench_init
    obtain ⟨f_Bench_check_going, d_Bench_check_going, D_Bench_check_going⟩ := e_Bench_check_going
    obtain ⟨f_Bench_is_place, d_Bench_is_place, D_Bench_is_place⟩ := e_Bench_is_place
    obtain ⟨f_Bench_found, d_Bench_found, D_Bench_found⟩ := e_Bench_found
    obtain ⟨f_Bench_begin_deed, d_Bench_begin_deed, D_Bench_begin_deed⟩ := e_Bench_begin_deed
    obtain ⟨f_Bench_get, d_Bench_get, D_Bench_get⟩ := e_Bench_get
    obtain ⟨f_Bench_put, d_Bench_put, D_Bench_put⟩ := e_Bench_put
    obtain ⟨f_Bench_sheet, d_Bench_sheet, D_Bench_sheet⟩ := e_Bench_sheet
    obtain ⟨f_Bench_lay, d_Bench_lay, D_Bench_lay⟩ := e_Bench_lay
    obtain ⟨f_Bench_lose, d_Bench_lose, D_Bench_lose⟩ := e_Bench_lose
    obtain ⟨f_Bench_bring, d_Bench_bring, D_Bench_bring⟩ := e_Bench_bring
    obtain ⟨f_Bench_sizes, d_Bench_sizes, D_Bench_sizes⟩ := e_Bench_sizes
    obtain ⟨f_Bench_deeds, d_Bench_deeds, D_Bench_deeds⟩ := e_Bench_deeds
    obtain ⟨f_Bench_arm, d_Bench_arm, D_Bench_arm⟩ := e_Bench_arm
    obtain ⟨f_Bench_again, d_Bench_again, D_Bench_again⟩ := e_Bench_again
    obtain ⟨f_Disk_init, d_Disk_init, D_Disk_init⟩ := e_Disk_init
    obtain ⟨f_I, d_I, D_ID, in1, in2, in3, tyI⟩ := e_I
    obtain ⟨t1, i1⟩ := i1
    obtain ⟨t2, i2⟩ := i2
    obtain ⟨t3, i3⟩ := i3
    obtain ⟨t4, i4⟩ := i4
    obtain ⟨t5, i5⟩ := i5
    have AA := Zw.all02 (l := PySem.Challenge.rw_volumehall_k02_benches) (w := w) (VE := 32) (cls := Zw.clsOf) (P_comes := 371) (P_turn := 378) (P_is_long := 385) KX G hmg D_is_number D_copied D_check_pieces D_check_block D_begun D_take D_alike D_told D_all D_deed D_disk D_law D_comes D_turn D_is_long CB CD D_Bench_init D_Bench_check_going D_Bench_is_place D_Bench_found D_Bench_begin_deed D_Bench_get D_Bench_put D_Bench_sheet D_Bench_lay D_Bench_lose D_Bench_bring D_Bench_sizes D_Bench_deeds D_Bench_arm D_Bench_again D_Disk_init D_ID vV ⟨ns_BadSizes, ox_BadSizes, EX "BadSizes" (by decide +kernel), nm_BadSizes, kn_BadSizes, in1, tyI⟩ ⟨ns_NoDisk, ox_NoDisk, EX "NoDisk" (by decide +kernel), nm_NoDisk, kn_NoDisk, in2, tyI⟩ ⟨ns_Stopped, ox_Stopped, EX "Stopped" (by decide +kernel), nm_Stopped, kn_Stopped, in3, tyI⟩ KN i1 i2 i3 i4 i5 (fun x hx => of_decide_eq_true (List.all_eq_true.mp zB x hx)) [(371, Zw.lamQ "_law_comes"), (378, Zw.lamQ "_law_turn"), (385, Zw.lamQ "_law_is_long")] rfl (by decide)
    obtain ⟨rfl, AA⟩ := AA
    have hT := PySem.W.km_tabs_of Y
    have cd1 : PySem.W.codeHdIn (PySem.Challenge.cw_volumehall_k02_benches_holds.heap_39 w.params) 375 371 = true := by kernel_rfl
    have cd2 : PySem.W.codeHdIn (PySem.Challenge.cw_volumehall_k02_benches_holds.heap_39 w.params) 382 378 = true := by kernel_rfl
    have cd3 : PySem.W.codeHdIn (PySem.Challenge.cw_volumehall_k02_benches_holds.heap_39 w.params) 389 385 = true := by kernel_rfl
    have no1 : List.lookup 371 (PySem.Challenge.cw_volumehall_k02_benches_holds.heap_39 w.params) = none := by kernel_rfl
    have no2 : List.lookup 378 (PySem.Challenge.cw_volumehall_k02_benches_holds.heap_39 w.params) = none := by kernel_rfl
    have no3 : List.lookup 385 (PySem.Challenge.cw_volumehall_k02_benches_holds.heap_39 w.params) = none := by kernel_rfl
    refine ⟨d_law, [(375, 371), (382, 378), (389, 385)], _, ?zt, ?zn, ?zc, fun s u => Zw.binds1 D_law s u, ?zs, fun base KB GB TB => AA base KB GB TB⟩
    case zt =>
      intro p hp
      simp only [List.mem_cons, List.not_mem_nil, or_false] at hp
      rcases hp with rfl | rfl | rfl
      · exact hT 371 (by simp)
      · exact hT 378 (by simp)
      · exact hT 385 (by simp)
    case zn =>
      intro p hp
      simp only [List.mem_cons, List.not_mem_nil, or_false] at hp
      rcases hp with rfl | rfl | rfl
      · exact no1
      · exact no2
      · exact no3
    case zc =>
      intro p hp
      simp only [List.mem_cons, List.not_mem_nil, or_false] at hp
      rcases hp with rfl | rfl | rfl
      · exact PySem.W.codeHd_of_K KX cd1
      · exact PySem.W.codeHd_of_K KX cd2
      · exact PySem.W.codeHd_of_K KX cd3
    case zs =>
      intro H a ns hl _ hH hS
      refine Zw.law_start (Nat.le_trans hl (by decide)) (fun p hp => ?_) hS
      simp only [List.mem_cons, List.not_mem_nil, or_false] at hp
      rcases hp with rfl | rfl | rfl
      · exact hH (375, 371) (by simp)
      · exact hH (382, 378) (by simp)
      · exact hH (389, 385) (by simp)
