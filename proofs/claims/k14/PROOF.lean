import PyProof.Rows.All
import Wide.All
import OpenK.AllK
import Wide.FinOn
import HandS.Base
import HandS.Call
import HandS.List
import HandS.Comp
import HandS.Dict
import HandS.Iter
import HandS.Text
import HandS.Words
import HandS.WordsList
import HandS.WordsDict
import HandS.Exc
import HandS.ExcOwn
import HandS.TryOnly
import HandS.WordsExc
import HandS.Wide
import HandS.IsInst
import HandS.Flow
import HandS.TupAny
import HandS.DeepEq
import HandS.Deep
import HandS.More
import HandS.Lambda
import HandS.EndTab
import HandS.ExcIs
import HandS.ExcField
import HandS.SetFor
import PyProof.DictUpdate
import PyProof.CollectIter
import PyProof.Walks
import KE.KUnpack
import HandS.Star
import HandS.RaiseMore
import PySem.Challenge.RW_volumehall_k14_steps_written
set_option Elab.async false
set_option linter.all false
set_option maxRecDepth 100000
set_option maxHeartbeats 4000000
namespace Zw
open PySem PySem.Spec PyProof.Rows L2
/-! ## what stands apart: lists of things that hold of parts of the heap -/
abbrev HP := Hp → Prop
/-- what never changes may be shared -/
def fixO : HO → Bool | .tup _ => true | .frz _ (.ext _) => true | .frz _ (.lst _) => true | _ => false
def Sub (h H : Hp) : Prop := ∀ a o, h a = some o → H a = some o
def Dj (h g : Hp) : Prop := ∀ a o u, h a = some o → g a = some u → fixO o = true
def SL : List HP → Hp → Prop
  | [], _ => True
  | A :: l, H => ∃ h g, Sub h H ∧ Sub g H ∧ Dj h g ∧ A h ∧ SL l g
def pt (p : Addr) (o : HO) : HP := fun h => h p = some o
theorem Sub.refl (H : Hp) : Sub H H := fun _ _ h => h
theorem Sub.trans {h g H : Hp} (a : Sub h g) (b : Sub g H) : Sub h H := fun c o e => b c o (a c o e)
theorem SL.mono : ∀ {l : List HP} {H H' : Hp}, Sub H H' → SL l H → SL l H'
  | [], _, _, _, _ => trivial
  | _ :: _, _, _, s, ⟨h, g, a, b, d, x, y⟩ => ⟨h, g, a.trans s, b.trans s, d, x, y⟩
/-- two parts of one heap -/
def join (h g : Hp) : Hp := fun a => match h a with | some o => some o | none => g a
theorem sub_l (h g : Hp) : Sub h (join h g) := fun a o e => by unfold join; rw [e]
theorem sub_r {h g H : Hp} (a : Sub h H) (b : Sub g H) : Sub g (join h g) := fun c o e => by
  unfold join
  cases q : h c with
  | none => exact e
  | some u =>
    have h1 := a c u q
    have h2 := b c o e
    rw [h1] at h2
    exact h2
theorem join_sub {h g H : Hp} (a : Sub h H) (b : Sub g H) : Sub (join h g) H := fun c o e => by
  unfold join at e
  cases q : h c with
  | none => rw [q] at e; exact b c o e
  | some u => rw [q] at e; exact a c o (q.trans e)
theorem Dj.sub {h g h' g' : Hp} (d : Dj h g) (a : Sub h' h) (b : Sub g' g) : Dj h' g' := fun c o u e f => d c o u (a c o e) (b c u f)
theorem Dj.symm {h g H : Hp} (d : Dj h g) (a : Sub h H) (b : Sub g H) : Dj g h := fun c o u e f => by
  have h1 := a c u f
  have h2 := b c o e
  rw [h1] at h2
  cases h2
  exact d c o o f e
theorem Dj.join_r {h g i : Hp} (d : Dj h g) (e : Dj h i) : Dj h (join g i) := fun c o u p q => by
  unfold join at q
  cases r : g c with
  | none => rw [r] at q; exact e c o u p q
  | some z => exact d c o z p r
theorem Dj.join_l {h g i : Hp} (d : Dj h i) (e : Dj g i) : Dj (join h g) i := fun c o u p q => by
  unfold join at p
  cases r : h c with
  | none => rw [r] at p; exact e c o u p q
  | some z =>
    rw [r] at p
    cases p
    exact d c o u r q
theorem SL.swap {A B : HP} {l : List HP} {H : Hp} (x : SL (A :: B :: l) H) : SL (B :: A :: l) H := by
  obtain ⟨h, g, s1, s2, d, a, hb, gr, s3, s4, d2, b, r⟩ := x
  refine ⟨hb, join h gr, s3.trans s2, join_sub s1 (s4.trans s2), ?_, b, h, gr, sub_l _ _, sub_r s1 (s4.trans s2), d.sub (Sub.refl _) s4, a, r⟩
  exact Dj.join_r ((d.sub (Sub.refl _) s3).symm s1 (s3.trans s2)) d2
theorem SL.perm {l l' : List HP} (p : l.Perm l') : ∀ {H : Hp}, SL l H → SL l' H := by
  induction p with
  | nil => exact fun x => x
  | cons A p ih => exact fun ⟨h, g, a, b, d, x, y⟩ => ⟨h, g, a, b, d, x, ih y⟩
  | swap A B l => exact fun x => x.swap
  | trans p q ihp ihq => exact fun x => ihq (ihp x)
theorem SL.tail {A : HP} {l : List HP} {H : Hp} (x : SL (A :: l) H) : SL l H := by
  obtain ⟨h, g, a, b, d, x, y⟩ := x
  exact y.mono b
/-- A is taken out of l, r is left -/
inductive Pk {α : Type _} (a : α) : List α → List α → Prop
  | hd {l : List α} : Pk a (a :: l) l
  | tl {b : α} {l r : List α} : Pk a l r → Pk a (b :: l) (b :: r)
theorem Pk.perm {α : Type _} {a : α} {l r : List α} (p : Pk a l r) : l.Perm (a :: r) := by
  induction p with
  | hd => exact .refl _
  | tl p ih => exact (List.Perm.cons _ ih).trans (.swap _ _ _)
theorem SL.pk {A : HP} {l r : List HP} {H : Hp} (x : SL l H) (p : Pk A l r) : SL (A :: r) H := x.perm p.perm
theorem SL.unpk {A : HP} {l r : List HP} {H : Hp} (p : Pk A l r) (x : SL (A :: r) H) : SL l H := x.perm p.perm.symm
/-- several are taken out -/
inductive Pks {α : Type _} : List α → List α → List α → Prop
  | nil {l : List α} : Pks [] l l
  | cons {a : α} {as l r r' : List α} : Pk a l r → Pks as r r' → Pks (a :: as) l r'
theorem Pks.perm {α : Type _} {as l r : List α} (p : Pks as l r) : l.Perm (as ++ r) := by
  induction p with
  | nil => exact .refl _
  | cons h p ih => exact h.perm.trans (.cons _ ih)
theorem SL.pks {as l r : List HP} {H : Hp} (x : SL l H) (p : Pks as l r) : SL (as ++ r) H := x.perm p.perm
theorem SL.imp {A B : HP} {l : List HP} {H : Hp} (x : SL (A :: l) H) (f : ∀ h, A h → B h) : SL (B :: l) H := by
  obtain ⟨h, g, a, b, d, x, y⟩ := x
  exact ⟨h, g, a, b, d, f h x, y⟩
theorem SL.ex {α : Sort _} {A : α → HP} {l : List HP} {H : Hp} (x : SL ((fun h => ∃ i, A i h) :: l) H) : ∃ i, SL (A i :: l) H := by
  obtain ⟨h, g, a, b, d, ⟨i, x⟩, y⟩ := x
  exact ⟨i, h, g, a, b, d, x, y⟩
theorem SL.pure {P : Prop} {A : HP} {l : List HP} {H : Hp} (x : SL ((fun h => P ∧ A h) :: l) H) : P ∧ SL (A :: l) H := by
  obtain ⟨h, g, a, b, d, ⟨p, x⟩, y⟩ := x
  exact ⟨p, h, g, a, b, d, x, y⟩
theorem SL.fact {P : Prop} {l : List HP} {H : Hp} (x : SL ((fun _ => P) :: l) H) : P ∧ SL l H := by
  obtain ⟨h, g, a, b, d, p, y⟩ := x
  exact ⟨p, y.mono b⟩
theorem SL.nest : ∀ {m l : List HP} {H : Hp}, SL (SL m :: l) H → SL (m ++ l) H
  | [], l, H, x => x.tail
  | A :: m, l, H, ⟨h, g, a, b, d, ⟨h1, h2, s1, s2, d2, x1, x2⟩, y⟩ => by
    refine ⟨h1, join h2 g, s1.trans a, join_sub (s2.trans a) b, Dj.join_r d2 (d.sub s1 (Sub.refl _)), x1, ?_⟩
    exact SL.nest ⟨h2, g, sub_l _ _, sub_r (s2.trans a) b, d.sub s2 (Sub.refl _), x2, y⟩
theorem SL.unnest : ∀ {m l : List HP} {H : Hp}, SL (m ++ l) H → SL (SL m :: l) H
  | [], l, H, x => ⟨fun _ => none, H, (fun _ _ e => by cases e), Sub.refl _, (fun _ _ _ e => by cases e), trivial, x⟩
  | A :: m, l, H, ⟨h, g, a, b, d, x, y⟩ => by
    obtain ⟨h1, g1, s1, s2, d2, x1, y1⟩ := SL.unnest y
    refine ⟨join h h1, g1, join_sub a (s1.trans b), s2.trans b, Dj.join_l (d.sub (Sub.refl _) s2) d2, ⟨h, h1, sub_l _ _, sub_r a (s1.trans b), d.sub (Sub.refl _) s1, x, x1⟩, y1⟩
/-! ### single things -/
def one (p : Addr) (o : HO) : Hp := upd (fun _ => none) p o
theorem one_at {p : Addr} {o : HO} : one p o p = some o := upd_same
theorem one_some {p a : Addr} {o u : HO} (e : one p o a = some u) : a = p ∧ u = o := by
  unfold one at e
  by_cases h : a = p
  · subst h
    rw [upd_same] at e
    exact ⟨rfl, (Option.some.inj e).symm⟩
  · rw [upd_ne h] at e; cases e

theorem SL.get {p : Addr} {o : HO} : ∀ {l : List HP} {H : Hp}, pt p o ∈ l → SL l H → H p = some o
  | A :: l, H, m, ⟨h, g, a, b, d, x, y⟩ => by
    cases m with
    | head => exact a p o x
    | tail _ m => exact b p o (SL.get m y)
theorem SL.new {l : List HP} {H : Hp} {p : Addr} (o : HO) (n : H p = none) (x : SL l H) : SL (pt p o :: l) (upd H p o) := by
  refine ⟨one p o, H, fun a u e => ?_, fun a u e => ?_, fun a u v e f => ?_, one_at, x⟩
  · obtain ⟨rfl, rfl⟩ := one_some e
    exact upd_same
  · rw [upd_ne (ne_of_none e n)]; exact e
  · obtain ⟨rfl, rfl⟩ := one_some e
    rw [n] at f; cases f
/-- what stands at p is another thing now -/
inductive Rp {α : Type _} (a b : α) : List α → List α → Prop
  | hd {l : List α} : Rp a b (a :: l) (b :: l)
  | tl {c : α} {l r : List α} : Rp a b l r → Rp a b (c :: l) (c :: r)
theorem Rp.of {α : Type _} {a b : α} {l l' : List α} (p : Rp a b l l') : ∃ r, Pk a l r ∧ Pk b l' r := by
  induction p with
  | hd => exact ⟨_, .hd, .hd⟩
  | tl p ih =>
    obtain ⟨r, h1, h2⟩ := ih
    exact ⟨_, .tl h1, .tl h2⟩
theorem SL.wr {l l' : List HP} {H : Hp} {p : Addr} {o o' : HO} (r : Rp (pt p o) (pt p o') l l') (f : fixO o = false) (x : SL l H) : SL l' (upd H p o') := by
  obtain ⟨r, h1, h2⟩ := r.of
  refine SL.unpk h2 ?_
  obtain ⟨h, g, a, b, d, x, y⟩ := x.pk h1
  have gn : g p = none := by
    cases q : g p with
    | none => rfl
    | some u =>
      have := d p o u x q
      rw [f] at this; cases this
  refine ⟨one p o', g, fun a u e => ?_, fun a u e => ?_, fun a u v e f => ?_, one_at, y⟩
  · obtain ⟨rfl, rfl⟩ := one_some e
    exact upd_same
  · rw [upd_ne (ne_of_none e gn)]; exact b a u e
  · obtain ⟨rfl, rfl⟩ := one_some e
    rw [gn] at f; cases f
/-- a tuple may be told twice -/
theorem SL.dup {l : List HP} {H : Hp} {p : Addr} {o : HO} (f : fixO o = true) (m : pt p o ∈ l) (x : SL l H) : SL (pt p o :: l) H := by
  have e := SL.get m x
  refine ⟨one p o, H, fun a u q => ?_, Sub.refl _, fun a u v q r => ?_, one_at, x⟩
  · obtain ⟨rfl, rfl⟩ := one_some q
    exact e
  · obtain ⟨rfl, rfl⟩ := one_some q
    exact f
theorem SL.drop {A : HP} {l r : List HP} {H : Hp} (p : Pk A l r) (x : SL l H) : SL r H := (x.pk p).tail
end Zw

set_option Elab.async false
set_option linter.all false
set_option maxRecDepth 100000
set_option maxHeartbeats 4000000
namespace Zw
open PySem PySem.Spec PyProof.Rows L2
/-! ## functions that are made on the spot (lambda), by their objects -/
/-- the object of a lambda: its defaults are dV -/
abbrev lamFd (qual : Str) (params : Arguments) (body : Expr) (scope : Scope) (cl : List (Str × Addr)) (dV pm cv ctv : Value) : FuncData :=
  { name := "<lambda>", qualname := qual, params, body := .expr body, scope, globals := mainGlobals, closure := cl, defaults := dV, kwdefaults := .none, doc := .none, pyModule := pm, annotations := none, code := cv, closureTuple := ctv, builtins := builtinsNs }
abbrev lamO (qual : Str) (params : Arguments) (body : Expr) (scope : Scope) (cl : List (Str × Addr)) (dV pm cv ctv : Value) : Obj :=
  { cls := .type "function", data := .func (lamFd qual params body scope cl dV pm cv ctv) }
section
variable {M : Model} {A : Around} {X : Value → Shared → Prop} {s : Shared} {qual : Str} {params : Arguments} {body : Expr} {scope : Scope} {env : Env} {c P : Addr} {ps : Array Value} {pos : Pos} {ln : Nat} {mg : Str → Option Value}
  {cl : List (Str × Addr)} {Q : Value → Shared → Prop} {dV : Value}
/-- what is told of the heap behind the making: the code object is old or new -/
def LamEnd (s : Shared) (P : Addr) (ps : Array Value) (pos : Pos) (qual : Str) (cv : Value) (h' : Heap) : Prop :=
  (∀ b o, b ≠ P → s.heap.get? b = some o → h'.get? b = some o) ∧ s.heap.objs.size ≤ h'.objs.size ∧
  ((codeAmong pos ps.toList = some cv ∧ h'.get? P = s.heap.get? P) ∨
   (∃ c', cv = .ref c' ∧ s.heap.objs.size ≤ c' ∧ c' < h'.objs.size ∧ h'.CodeRec (.ref c') qual ∧ h'.get? P = some (PySem.W.tabObj (ps ++ #[rawInt pos.line, rawInt pos.col, .ref c']))))
theorem lam_tail (hcl : closureFor scope env = pure cl) (hge : env.globals = mainGlobals) (hg : s.heap.Ns mainGlobals mg) (hcode : env.code = .ref c) (C : PySem.W.CodeHd s.heap c P) (hP : s.heap.get? P = some (PySem.W.tabObj ps)) (ht : TriplesOk ps.toList)
    (hgP : mainGlobals ≠ P) (hb : s.heap.BuiltinsAt mg P)
    (h : ∀ cv ctv h' tk, LamEnd s P ps pos qual cv h' → Q (.ref h'.objs.size) { s with heap := h'.push (lamO qual params body scope cl dV ((mg "__name__").getD .none) cv ctv), toks := tk }) :
    wpAny M A (makeTail "<lambda>" qual params (.expr body) scope env dV .none none pos ln) Q X s := by
  obtain ⟨bm, ob, e1, e2, _, e3, e4, e5, e6, e7⟩ := hb
  -- the closure's tuple is laid or not; then the code object, found or made
  have go : ∀ (s1 : Shared) (ctv : Value), (∀ b o, s.heap.get? b = some o → s1.heap.get? b = some o) → s.heap.objs.size ≤ s1.heap.objs.size → s1.gens = s.gens → s1.drawn = s.drawn → s1.os = s.os →
      wpAny M A (do
        let code ← functionCode env pos ln "<lambda>" qual params scope (.expr body)
        let b ← builtinsFor env.globals env.builtins
        let pm ← nsGet env.globals "__name__"
        let dc ← pure Value.none
        newObj (.type "function") (.func { name := "<lambda>", qualname := qual, params, body := .expr body, scope, globals := env.globals, closure := cl, defaults := dV, kwdefaults := .none, doc := dc, pyModule := pm.getD .none, annotations := none, code := code, closureTuple := ctv, builtins := b })) Q X s1 := by
    intro s1 ctv k hsz g1 g2 g3
    have hg1 := hg.keeps k
    have hP1 := k _ _ hP
    have C1 := C.keeps k
    have e41 := k _ _ e4
    obtain ⟨hh, gg, dd, tt, oo⟩ := s1
    cases g1; cases g2; cases g3
    cases hf : codeAmong pos ps.toList with
    | some cv =>
      refine wpAny_bind (wpAny_functionCode_hit hcode (C1.code hP1 ht) hf ?_)
      rw [hge]
      refine wpAny_bind (wpAny_builtinsFor hg1 e1 e2 e41 e5 e6 e7 ?_)
      refine wpAny_bind (wpAny_nsGet hg1 ?_)
      exact wpAny_bind (wpAny_pure (wpAny_newObj_type (h cv ctv hh tt ⟨fun b o _ q => k b o q, hsz, .inl ⟨hf, by rw [hP]; exact hP1⟩⟩) (by size_fits)))
    | none =>
      refine wpAny_bind (wpAny_functionCodeX hcode (C1.code hP1 ht) (C1.tab hP1) hf fun c' h' tk hx hge' hlt _ hrec htb _ => ?_)
      have hg2 := hg1.extBut hx hgP
      rw [hge]
      refine wpAny_bind (wpAny_builtinsFor hg2 e1 e2 (hx _ _ e3 e41) e5 e6 e7 ?_)
      refine wpAny_bind (wpAny_nsGet hg2 ?_)
      exact wpAny_bind (wpAny_pure (wpAny_newObj_type (h (.ref c') ctv h' tk ⟨fun b o hb q => hx b o hb (k b o q), Nat.le_trans hsz (Nat.le_trans hge' (Nat.le_of_lt hlt)), .inr ⟨c', rfl, Nat.le_trans hsz hge', hlt, hrec, htb.2⟩⟩) (by size_fits)))
  unfold makeTail
  rw [hcl]
  refine wpAny_bind (wpAny_pure ?_)
  cases cl with
  | nil =>
    simp only [List.isEmpty_nil, if_true]
    refine wpAny_bind (wpAny_pure ?_)
    exact go s .none (fun _ _ q => q) (Nat.le_refl _) rfl rfl rfl
  | cons q r =>
    simp only [List.isEmpty_cons, Bool.false_eq_true, if_false]
    refine wpAny_bind (wpAny_newTextTuple ?_)
    refine go _ _ (fun b o e => ?_) ?_ rfl rfl rfl
    · exact Heap.get?_push_of_some _ e
    · show s.heap.objs.size ≤ (s.heap.push _).objs.size
      rw [Heap.size_push]
      omega
end

/-! ### in a context -/
abbrev uT : HO := .ext fun _ => True
/-- the tables of code objects: each code object told there is known -/
def tabsOk (T : List (Addr × Str)) (H : Hp) : Prop := ∀ p ∈ T, ∃ ps : Array Value, H p.1 = some (.tbl ps) ∧ TriplesOk ps.toList ∧ ∀ (pos : Pos) (cv : Value), codeAmong pos ps.toList = some cv → ∃ c od, cv = .ref c ∧ H c = some (.frz od (LamX.CodeO c p.2))
/-- all but the tables stays -/
def KeepT (T : List (Addr × Str)) (H H' : Hp) : Prop := ∀ b o, H b = some o → (∀ p ∈ T, p.1 ≠ b) → H' b = some o
theorem tabsOk.laid {T : List (Addr × Str)} {H : Hp} {a : Addr} {o : HO} (t : tabsOk T H) (n : H a = none) : tabsOk T (upd H a o) := fun p hp => by
  obtain ⟨ps, h1, h2, h3⟩ := t p hp
  refine ⟨ps, by rw [upd_ne (ne_of_none h1 n)]; exact h1, h2, fun pos cv e => ?_⟩
  obtain ⟨c, od, e1, e2⟩ := h3 pos cv e
  exact ⟨c, od, e1, by rw [upd_ne (ne_of_none e2 n)]; exact e2⟩
theorem KeepT.laid {T : List (Addr × Str)} {H : Hp} {a : Addr} {o : HO} (n : H a = none) : KeepT T H (upd H a o) := fun b u e _ => by rw [upd_ne (ne_of_none e n)]; exact e
theorem KeepT.trans {T : List (Addr × Str)} {H H' H2 : Hp} (a : KeepT T H H') (b : KeepT T H' H2) : KeepT T H H2 := fun c o e n => b c o (a c o e n) n
section
variable {X : Cx} {pins : List (Addr × Obj)} {σ : L2.St} {H : Hp} {s : Shared} {T : List (Addr × Str)} {c P : Addr} {q : Str}
/-- behind the making of a lambda -/
theorem lam_end (I : Inv X pins σ H s) (hm : (P, q) ∈ T) (hu : ∀ p ∈ T, p.1 = P → p.2 = q) (hT : tabsOk T H) {ps : Array Value} (hP : H P = some (.tbl ps)) (ht : TriplesOk ps.toList) {pos : Pos} {cv : Value} {h' : Heap} {tk : Tok} (L : LamEnd s P ps pos q cv h') {o : Obj} (ho : o.isFreed = false) :
    ∃ c' od H1, cv = .ref c' ∧ Inv X pins σ H1 { s with heap := h'.push o, toks := tk } ∧ KeepT T H H1 ∧ tabsOk T H1 ∧ H1 h'.objs.size = some (.frz o uT) ∧ H1 c' = some (.frz od (LamX.CodeO c' q)) := by
  obtain ⟨k, hsz, L⟩ := L
  have hPs : s.heap.get? P = some { cls := .none, data := .fields ps } := I.hok P _ hP
  have lay : ∀ {H1 : Hp} {s1 : Shared}, Inv X pins σ H1 s1 → s1.heap = h' → s1.gens = s.gens → s1.drawn = s.drawn → s1.os = s.os → H1 h'.objs.size = none ∧ Inv X pins σ (upd H1 h'.objs.size (.frz o uT)) { s with heap := h'.push o, toks := tk } := by
    intro H1 s1 J e1 e2 e3 e4
    obtain ⟨a1, a2, a3, a4, a5⟩ := s1
    cases e1; cases e2; cases e3; cases e4
    have hn : H1 a1.objs.size = none := J.hok.fresh (Nat.le_refl _)
    exact ⟨hn, J.laid (t' := tk) (h' := a1.push o) (fun b u e => Heap.get?_push_of_some _ e) (Nat.le_refl _) ⟨Heap.get?_push_size _ ho, trivial, ⟨_, Heap.get?_push_size _ ho⟩, fun _ _ _ _ => trivial⟩⟩
  rcases L with ⟨hf, hP2⟩ | ⟨c', rfl, hge, hlt, hrec, hP2⟩
  · obtain ⟨ps', e1, e2, e3⟩ := hT _ hm
    have e1 : H P = some (.tbl ps') := e1
    rw [hP] at e1
    cases e1
    obtain ⟨c', od, rfl, hc⟩ := e3 pos cv hf
    have J : Inv X pins σ H { s with heap := h', toks := tk } := I.kept fun b u e => by
      by_cases hb : b = P
      · rw [hb] at e ⊢
        rw [hP2]
        exact e
      · exact k b u hb e
    obtain ⟨hn, J2⟩ := lay J rfl rfl rfl rfl
    exact ⟨c', od, _, rfl, J2, KeepT.laid hn, hT.laid hn, upd_same, by rw [upd_ne (ne_of_none hc hn)]; exact hc⟩
  · obtain ⟨c2, oc, vs, t, e2, hoc, hd, hv⟩ := hrec
    cases e2
    have J := LamX.inv_table (t' := tk) (q := q) (c := c') (more := #[rawInt pos.line, rawInt pos.col, .ref c']) I hP k hP2 hge ⟨oc, vs, t, hoc, hd, hv⟩
    have nC : H c' = none := I.hok.fresh hge
    have nPc : P ≠ c' := ne_of_none hP nC
    obtain ⟨od, J1⟩ := J.lock (d := c') upd_same trivial
    rw [upd_upd] at J1
    obtain ⟨hn, J2⟩ := lay J1 rfl rfl rfl rfl
    have at1 : upd (upd H P (.tbl (ps ++ #[rawInt pos.line, rawInt pos.col, .ref c']))) c' (.frz od (LamX.CodeO c' q)) c' = some (.frz od (LamX.CodeO c' q)) := upd_same
    have keep : KeepT T H (upd (upd H P (.tbl (ps ++ #[rawInt pos.line, rawInt pos.col, .ref c']))) c' (.frz od (LamX.CodeO c' q))) := fun b u e n => by
      rw [upd_ne (ne_of_none e nC), upd_ne (fun z => n _ hm z.symm)]
      exact e
    have frz : ∀ {d : Addr} {o2 : Obj} {u2 : HO}, H d = some (.frz o2 u2) → upd (upd H P (.tbl (ps ++ #[rawInt pos.line, rawInt pos.col, .ref c']))) c' (.frz od (LamX.CodeO c' q)) d = some (.frz o2 u2) := fun {d o2 u2} e => by
      rw [upd_ne (ne_of_none e nC), upd_ne (fun z => by rw [z, hP] at e; cases e)]
      exact e
    have tabs : tabsOk T (upd (upd H P (.tbl (ps ++ #[rawInt pos.line, rawInt pos.col, .ref c']))) c' (.frz od (LamX.CodeO c' q))) := fun p hp => by
      obtain ⟨ps', e1, e2, e3⟩ := hT p hp
      by_cases hpP : p.1 = P
      · rw [hpP, hP] at e1
        cases e1
        refine ⟨_, by rw [hpP, upd_ne nPc, upd_same], by rw [Array.toList_append]; exact PySem.TriplesOk_snoc _ _ _ _ ht, fun p' cv' e => ?_⟩
        rw [Array.toList_append] at e
        rcases LamX.among_app _ ht e with z | z
        · obtain ⟨d, od', r1, r2⟩ := e3 p' cv' z
          exact ⟨d, od', r1, frz r2⟩
        · rw [hu p hp hpP]
          exact ⟨c', od, z, at1⟩
      · refine ⟨ps', by rw [upd_ne (ne_of_none e1 nC), upd_ne hpP]; exact e1, e2, fun p' cv' e => ?_⟩
        obtain ⟨d, od', r1, r2⟩ := e3 p' cv' e
        exact ⟨d, od', r1, frz r2⟩
    exact ⟨c', od, _, rfl, J2, keep.trans (KeepT.laid hn), tabs.laid hn, upd_same, by rw [upd_ne (ne_of_none at1 hn)]; exact at1⟩
end
end Zw

set_option Elab.async false
set_option linter.all false
set_option maxRecDepth 100000
set_option maxHeartbeats 4000000
namespace Zw
open PySem PySem.Spec PyProof.Rows L2
/-! ## the lambda's value: what is known of it -/
/-- no parameter, or one with a written default -/
inductive LPar : Arguments → List (Str × Int) → Prop
  | p0 : LPar ⟨[], [], none, [], [], none, []⟩ []
  | p1 (a : Str) (i : Int) (j : Nat) (p p2 : Pos) : LPar ⟨[], [⟨a, none, p⟩], none, [], [], none, [.Constant (.int i) j p2]⟩ [(a, i)]
def lparB (A : Arguments) : Option (List (Str × Int)) := match A with
  | ⟨[], [], none, [], [], none, []⟩ => some []
  | ⟨[], [⟨a, none, _⟩], none, [], [], none, [.Constant (.int i) _ _]⟩ => some [(a, i)]
  | _ => none
theorem lparB_ok {A : Arguments} {l : List (Str × Int)} (h : lparB A = some l) : LPar A l := by
  unfold lparB at h
  split at h
  · cases h; exact .p0
  · cases h; exact .p1 _ _ _ _ _
  · cases h
/-- the names of a lambda's scope, in N and the maker's scope sc -/
def lamB (N : List Str) (sc scope : Scope) (l : List (Str × Int)) : Bool :=
  decide (scope.kind = .function) && !scope.isCoroutine && !scope.isGenerator && (l.all fun p => decide (scope.names.lookup p.1 = some .local) && decide (p.1 ∉ N)) &&
  (scope.names.all fun y => !decide (y.2 = .cell) && (!decide (y.2 = .local) || decide (y.1 ∉ N)) && (!decide (y.2 = .free) || decide (sc.names.lookup y.1 = some .cell) || decide (sc.names.lookup y.1 = some .free)))
structure LamSc (N : List Str) (sc scope : Scope) (l : List (Str × Int)) : Prop where
  kind : scope.kind = .function
  co : scope.isCoroutine = false
  gen : scope.isGenerator = false
  par : ∀ p ∈ l, scope.names.lookup p.1 = some .local ∧ p.1 ∉ N
  cell : ∀ y ∈ scope.names, y.2 ≠ .cell
  loc : ∀ y ∈ scope.names, y.2 = .local → y.1 ∉ N
  free : ∀ y ∈ scope.names, y.2 = .free → sc.names.lookup y.1 = some .cell ∨ sc.names.lookup y.1 = some .free
theorem lamB_ok {N : List Str} {sc scope : Scope} {l : List (Str × Int)} (h : lamB N sc scope l = true) : LamSc N sc scope l := by
  unfold lamB at h
  simp only [Bool.and_eq_true, Bool.or_eq_true, Bool.not_eq_true', decide_eq_true_eq, decide_eq_false_iff_not, List.all_eq_true] at h
  obtain ⟨⟨⟨⟨h1, h2⟩, h3⟩, h4⟩, h5⟩ := h
  refine ⟨h1, h2, h3, h4, fun y hy => (h5 y hy).1.1, fun y hy e => ?_, fun y hy e => ?_⟩
  · rcases (h5 y hy).1.2 with z | z
    · exact absurd e z
    · exact z
  · rcases (h5 y hy).2 with (z | z) | z
    · exact absurd e z
    · exact .inl z
    · exact .inr z
section
variable {X : Cx}
theorem LamSc.has {N : List Str} {scope : Scope} {l : List (Str × Int)} (L : LamSc N X.env.scope scope l) (ok : X.Ok) : ∀ y ∈ scope.names, y.2 = .free → ∃ c, X.env.cells.lookup y.1 = some c := fun y hy e => by
  rcases L.free y hy e with k | k
  · exact ok.has _ (.inl k)
  · exact ok.has _ (.inr k)
/-- a lambda's value at f: its own object, its code object, its defaults are known, by fz -/
def MadeBy (X : Cx) (params : Arguments) (body : Expr) (scope : Scope) (l : List (Str × Int)) (f : Addr) (fz : List (Addr × HO)) : Prop :=
  ∃ dV pm c' od ctv, (f, HO.frz (lamO (X.env.qual ++ "<lambda>") params body scope (cloFrom X.env.cells scope.names []) dV pm (.ref c') ctv) uT) ∈ fz ∧ (c', HO.frz od (LamX.CodeO c' (X.env.qual ++ "<lambda>"))) ∈ fz ∧
    ((l = [] ∧ dV = .none) ∨ ∃ t, l ≠ [] ∧ dV = .ref t ∧ (t, HO.tup (l.map fun p => .int p.2)) ∈ fz) ∧ ∀ p ∈ fz, fixO p.2 = true
/-- the lambda is made -/
theorem pe_lam {params : Arguments} {body : Expr} {scope : Scope} {pos : Pos} {l : List (Str × Int)} {T : List (Addr × Str)} {c P : Addr} {N : List Str} (hp : LPar params l) (L : LamSc N X.env.scope scope l) (TB : LamX.TabB X.base X.mg c P) (hcode : X.env.code = .ref c) (hm : (P, X.env.qual ++ "<lambda>") ∈ T)
    (hu : ∀ p ∈ T, p.1 = P → p.2 = X.env.qual ++ "<lambda>") :
    PE X (.Lambda params body scope pos) (fun _ H Q => tabsOk T H ∧ ∀ f fz H1, KeepT T H H1 → tabsOk T H1 → (∀ p ∈ fz, H1 p.1 = some p.2) → MadeBy X params body scope l f fz → Q (.ref f) H1) := by
  refine ⟨fun pins s σ H Q I h => ?_⟩
  obtain ⟨hT, h⟩ := h
  rw [arm_eval_Lambda]
  -- the making itself, behind the defaults
  have make : ∀ (s1 : Shared) (H1 : Hp) (dV : Value) (dz : List (Addr × HO)), Inv X pins σ H1 s1 → KeepT T H H1 → tabsOk T H1 → (∀ p ∈ dz, H1 p.1 = some p.2 ∧ fixO p.2 = true) → ((l = [] ∧ dV = .none) ∨ ∃ t, l ≠ [] ∧ dV = .ref t ∧ (t, HO.tup (l.map fun p => .int p.2)) ∈ dz) →
      wpAny (model X.prog X.w) X.A (makeTail "<lambda>" (X.env.qual ++ "<lambda>") params (.expr body) scope X.env dV .none none pos pos.line) (EP X pins σ Q) X.xe s1 := by
    intro s1 H1 dV dz I1 k1 t1 z1 d1
    obtain ⟨ps, hP, ht, ha⟩ := t1 _ hm
    have hP : H1 P = some (.tbl ps) := hP
    refine lam_tail (mg := X.mg) (c := c) (P := P) (ps := ps) (closure_ok (L.has I1.ok)) I1.ok.glob (I1.mod.glob.keeps I1.bk) hcode (TB.code.keeps I1.bk) (I1.hok P _ hP) ht TB.gP (TB.bm.keeps I1.bk) fun cv ctv h' tk e => ?_
    obtain ⟨c', od, H2, rfl, I2, k2, t2, e1, e2⟩ := lam_end (o := lamO (X.env.qual ++ "<lambda>") params body scope (cloFrom X.env.cells scope.names []) dV ((X.mg "__name__").getD .none) cv ctv) I1 hm hu t1 hP ht e rfl
    refine ⟨.ref h'.objs.size, H2, I2, rfl, h _ ((h'.objs.size, HO.frz (lamO (X.env.qual ++ "<lambda>") params body scope (cloFrom X.env.cells scope.names []) dV ((X.mg "__name__").getD .none) (.ref c') ctv) uT) :: (c', HO.frz od (LamX.CodeO c' (X.env.qual ++ "<lambda>"))) :: dz) H2 (k1.trans k2) t2 (fun p hp => ?_) ⟨dV, (X.mg "__name__").getD .none, c', od, ctv, List.mem_cons_self, List.mem_cons_of_mem _ List.mem_cons_self, ?_, fun p hp => ?_⟩⟩
    · rcases List.mem_cons.mp hp with rfl | hp
      · exact e1
      · rcases List.mem_cons.mp hp with rfl | hp
        · exact e2
        · obtain ⟨q1, q2⟩ := z1 p hp
          refine k2 _ _ q1 fun r hr z => ?_
          obtain ⟨ps', w1, _⟩ := t1 r hr
          rw [z, q1] at w1
          rw [Option.some.inj w1] at q2
          cases q2
    · rcases d1 with d1 | ⟨t, d1, d2, d3⟩
      · exact .inl d1
      · exact .inr ⟨t, d1, d2, List.mem_cons_of_mem _ (List.mem_cons_of_mem _ d3)⟩
    · rcases List.mem_cons.mp hp with rfl | hp
      · rfl
      · rcases List.mem_cons.mp hp with rfl | hp
        · rfl
        · exact (z1 p hp).2
  cases hp with
  | p0 =>
    show wpAny _ _ (do let dv ← evalAll []; let kdv ← holding dv (evalAllOpt []); makeFunction "<lambda>" (X.env.qual ++ "<lambda>") _ (.expr body) scope X.env dv kdv [] pos pos.line) _ _ _
    refine wpAny_bind (wpAny_pure (wpAny_bind (wpAny_holding (wpAny_pure ?_))))
    rw [makeFunction_eq]
    simp only [List.zip_nil_right, List.filterMap_nil, List.isEmpty_nil, if_true, pure_bind]
    exact make s H .none [] I (fun _ _ e _ => e) hT (fun _ hp => by cases hp) (.inl ⟨rfl, rfl⟩)
  | p1 a i j p p2 =>
    show wpAny _ _ (do let dv ← evalAll [eval (.Constant (.int i) j p2) X.env]; let kdv ← holding dv (evalAllOpt []); makeFunction "<lambda>" (X.env.qual ++ "<lambda>") _ (.expr body) scope X.env dv kdv [] pos pos.line) _ _ _
    refine wpAny_bind (wpAny_evalAll_cons (wpAny_Constant_int (wpAny_evalAll_nil ?_)))
    refine wpAny_bind (wpAny_holding (wpAny_pure ?_))
    rw [makeFunction_eq]
    simp only [List.zip_nil_right, List.filterMap_nil, List.isEmpty_nil, List.isEmpty_cons, Bool.false_eq_true, if_false, if_true, pure_bind]
    refine wpAny_bind (wpAny_newTextTuple ?_)
    have I0 := I.tok (s.toks + 1)
    have hn : H s.heap.objs.size = none := I.hok.fresh (Nat.le_refl _)
    refine make _ (upd H s.heap.objs.size (.tup [.int i])) _ [(s.heap.objs.size, .tup [.int i])] (I.laid (t' := s.toks + 1) (fun b o e => Heap.get?_push_of_some _ e) (Nat.le_refl _) ?_) (KeepT.laid hn) (hT.laid hn) (fun q hq => ?_) (.inr ⟨_, by simp, rfl, by simp⟩)
    · exact ⟨by show 1 ≤ sizeLine; decide, [_], .cons ⟨_, rfl⟩ .nil, ⟨_, Heap.get?_push_size _ rfl, rfl, _, rfl⟩⟩
    · rcases List.mem_cons.mp hq with rfl | hq
      · exact ⟨upd_same, rfl⟩
      · cases hq
end
end Zw

set_option Elab.async false
set_option linter.all false
set_option maxRecDepth 100000
set_option maxHeartbeats 4000000
namespace Zw
open PySem PySem.Spec PyProof.Rows L2
/-! ## cells that are known for a while -/
/-- known cells: each a cell's own object -/
def CzK (cz : Hp) : Prop := ∀ a o, cz a = some o → ∃ oc, o = .frz oc (.own 0) ∧ ∃ v, oc.data = .cell v
def less (cz H : Hp) : Hp := fun a => match cz a with | some _ => none | none => H a
theorem join_cz {cz H : Hp} {a : Addr} {o : HO} (e : cz a = some o) : join cz H a = some o := by unfold join; rw [e]
theorem join_no {cz H : Hp} {a : Addr} (e : cz a = none) : join cz H a = H a := by unfold join; rw [e]
theorem less_cz {cz H : Hp} {a : Addr} {o : HO} (e : cz a = some o) : less cz H a = none := by unfold less; rw [e]
theorem less_no {cz H : Hp} {a : Addr} (e : cz a = none) : less cz H a = H a := by unfold less; rw [e]
theorem cz_or (cz : Hp) (a : Addr) : (∃ o, cz a = some o) ∨ cz a = none := by
  cases cz a with
  | none => exact .inr rfl
  | some o => exact .inl ⟨o, rfl⟩
theorem less_some {cz H : Hp} {a : Addr} {o : HO} (e : less cz H a = some o) : cz a = none ∧ H a = some o := by
  rcases cz_or cz a with ⟨u, q⟩ | q
  · rw [less_cz q] at e; cases e
  · rw [less_no q] at e; exact ⟨q, e⟩
section
variable {P : Program} {w : World} {cz H H' : Hp} {h h' : Heap} {fs : List Addr}
theorem CzK.kind (k : CzK cz) {a : Addr} {o : HO} (e : cz a = some o) : (∀ x, o ≠ .own x) ∧ (∀ xs, o ≠ .tup xs) ∧ (∀ ps, o ≠ .tbl ps) := by
  obtain ⟨oc, rfl, _⟩ := k a o e
  exact ⟨(fun _ z => by cases z), (fun _ z => by cases z), (fun _ z => by cases z)⟩
/-- the known cells are forgotten -/
theorem hok_less (k : CzK cz) (sb : ∀ a o, cz a = some o → H a = some o) (x : HOk P w H h) : HOk P w (less cz H) h := fun a o e => by
  obtain ⟨n, e⟩ := less_some e
  have other : ∀ b u, H b = some u → (∀ oc v, u ≠ .frz oc v) → cz b = none := fun b u q hn => by
    rcases cz_or cz b with ⟨o', r⟩ | r
    · have := sb b o' r
      rw [q] at this
      cases this
      obtain ⟨oc, z, _⟩ := k b _ r
      exact absurd z (hn _ _)
    · exact r
  exact (x a o e).stay (fun _ _ _ q => q) (fun b q => by rw [less_no (other b _ q (fun _ _ z => by cases z))]; exact q) fun b xs q => by rw [less_no (other b _ q (fun _ _ z => by cases z))]; exact q
/-- .. and known again -/
theorem hok_join (k : CzK cz) (n : ∀ a o, cz a = some o → H a = none) (at_ : ∀ a oc u, cz a = some (.frz oc u) → h.get? a = some oc) (x : HOk P w H h) : HOk P w (join cz H) h := fun a o e => by
  rcases cz_or cz a with ⟨u, q⟩ | q
  · rw [join_cz q] at e
    cases e
    obtain ⟨oc, rfl, _⟩ := k a _ q
    exact ⟨at_ a _ _ q, ⟨oc, at_ a _ _ q⟩⟩
  · rw [join_no q] at e
    have other : ∀ b u, H b = some u → cz b = none := fun b u q => by
      rcases cz_or cz b with ⟨o', r⟩ | r
      · rw [n b o' r] at q; cases q
      · exact r
    exact (x a o e).stay (fun _ _ _ q => q) (fun b q => by rw [join_no (other b _ q)]; exact q) fun b xs q => by rw [join_no (other b _ q)]; exact q
/-- a run that knew nothing of the cells left them as they were -/
theorem un_join (k : CzK cz) (sb : ∀ a o, cz a = some o → H a = some o) (nf : ∀ a o, cz a = some o → a ∉ fs) (x : HOk P w H h) (u : Un fs [] (less cz H) H' h h') :
    (∀ a o, cz a = some o → H' a = none) ∧ (∀ a oc v, cz a = some (.frz oc v) → h'.get? a = some oc) ∧ Un fs [] H (join cz H') h h' := by
  have at0 : ∀ a oc v, cz a = some (.frz oc v) → h.get? a = some oc := fun a oc v e => (x a _ (sb a _ e)).1
  have z1 : ∀ a o, cz a = some o → H' a = none := fun a o e => by
    obtain ⟨oc, rfl, _⟩ := k a o e
    exact u.free a oc (at0 a oc _ e) (less_cz e) (by simp)
  have z2 : ∀ a oc v, cz a = some (.frz oc v) → h'.get? a = some oc := fun a oc v e => u.keep a oc (at0 a oc v e) (less_cz e) (nf a _ e) (by simp)
  have no : ∀ b, H b = none → cz b = none := fun b e => by
    rcases cz_or cz b with ⟨o', r⟩ | r
    · rw [sb b o' r] at e; cases e
    · exact r
  refine ⟨z1, z2, fun b o q n hb hx => u.keep b o q (by rw [less_no (no b n)]; exact n) hb hx, fun b o q n hb hx => u.slot b o q (by rw [less_no (no b n)]; exact n) hb hx, fun b o q n hx => ?_, u.there, fun b xs q => ?_, fun b o v q => ?_, fun b ps q => ?_⟩
  · rw [join_no (no b n)]
    exact u.free b o q (by rw [less_no (no b n)]; exact n) hx
  · rcases cz_or cz b with ⟨o', r⟩ | r
    · have := sb b o' r
      rw [q] at this
      cases this
      exact absurd rfl ((k.kind r).2.1 xs)
    · rw [join_no r]
      exact u.tups b xs (by rw [less_no r]; exact q)
  · rcases cz_or cz b with ⟨o', r⟩ | r
    · have := sb b o' r
      rw [q] at this
      cases this
      exact join_cz r
    · rw [join_no r]
      exact u.frzs b o v (by rw [less_no r]; exact q)
  · rcases cz_or cz b with ⟨o', r⟩ | r
    · have := sb b o' r
      rw [q] at this
      cases this
      exact absurd rfl ((k.kind r).2.2 ps)
    · rw [join_no r]
      exact u.tbls b ps (by rw [less_no r]; exact q)
/-- the same where an exception left -/
theorem ub_join {B : Heap} (k : CzK cz) (sb : ∀ a o, cz a = some o → H a = some o) (nf : ∀ a o, cz a = some o → a ∉ fs) (x : HOk P w H h) (u : UB fs (less cz H) H' h B h') :
    (∀ a o, cz a = some o → H' a = none) ∧ (∀ a oc v, cz a = some (.frz oc v) → B.get? a = some oc) ∧ UB fs H (join cz H') h B h' := by
  have at0 : ∀ a oc v, cz a = some (.frz oc v) → h.get? a = some oc := fun a oc v e => (x a _ (sb a _ e)).1
  have z1 : ∀ a o, cz a = some o → H' a = none := fun a o e => by
    obtain ⟨oc, rfl, _⟩ := k a o e
    exact u.free a oc (at0 a oc _ e) (less_cz e)
  have z2 : ∀ a oc v, cz a = some (.frz oc v) → B.get? a = some oc := fun a oc v e => u.keep a oc (at0 a oc v e) (less_cz e) (nf a _ e)
  have no : ∀ b, H b = none → cz b = none := fun b e => by
    rcases cz_or cz b with ⟨o', r⟩ | r
    · rw [sb b o' r] at e; cases e
    · exact r
  refine ⟨z1, z2, fun b o q n hb => u.keep b o q (by rw [less_no (no b n)]; exact n) hb, u.slot, fun b o q n => ?_, u.there, fun b xs q => ?_, fun b o v q => ?_, fun b ps q => ?_⟩
  · rw [join_no (no b n)]
    exact u.free b o q (by rw [less_no (no b n)]; exact n)
  · rcases cz_or cz b with ⟨o', r⟩ | r
    · have := sb b o' r
      rw [q] at this
      cases this
      exact absurd rfl ((k.kind r).2.1 xs)
    · rw [join_no r]
      exact u.tups b xs (by rw [less_no r]; exact q)
  · rcases cz_or cz b with ⟨o', r⟩ | r
    · have := sb b o' r
      rw [q] at this
      cases this
      exact join_cz r
    · rw [join_no r]
      exact u.frzs b o v (by rw [less_no r]; exact q)
  · rcases cz_or cz b with ⟨o', r⟩ | r
    · have := sb b o' r
      rw [q] at this
      cases this
      exact absurd rfl ((k.kind r).2.2 ps)
    · rw [join_no r]
      exact u.tbls b ps (by rw [less_no r]; exact q)
end
end Zw

set_option Elab.async false
set_option linter.all false
set_option maxRecDepth 100000
set_option maxHeartbeats 4000000
namespace Zw
open PySem PySem.Spec PyProof.Rows L2
/-! ## what a run stands in -/
structure Rt where
  P : Program
  w : World
  K : PySem.W.Frag
  mg : Str → Option Value
  base : Heap
def rtOf (X : Cx) : Rt := ⟨X.prog, X.w, X.K, X.mg, X.base⟩
/-- the callable at f keeps the promise sp, by at most level k -/
structure CallOk (R : Rt) (k : Nat) (f : Addr) (sp : Sp) : Prop where
  run : ∀ (X : Cx), rtOf X = R → Room k X.A → ∀ (pins : List (Addr × Obj)) (σ : L2.St) (H : Hp) (s : Shared) (Q : VK) (E : XK) (us : List Value) (vs : List V), Inv X pins σ H s → PassesAt (L2.CX X.prog X.w) X σ E → Vals vs us → sp vs H Q E →
    wpAny (model X.prog X.w) X.A (PySem.call (.ref f) us) (EP X pins σ Q) X.xe s

/-- a callable without written arguments at f, known by fz, keeps the promise sp -/
structure LamOk (R : Rt) (k : Nat) (f : Addr) (G : HP) (sp : Sp) : Prop where
  at_ : ∀ (P : Program) (w : World) (H : Hp) (h : Heap), HOk P w H h → G H → PySem.W.FnAt f h
  run : ∀ (X : Cx), rtOf X = R → Room k X.A → ∀ (pins : List (Addr × Obj)) (σ : L2.St) (H : Hp) (s : Shared) (Q : VK) (E : XK), Inv X pins σ H s → G H → PassesAt (L2.CX X.prog X.w) X σ E → sp [] H Q E →
    wpAny (model X.prog X.w) X.A (PySem.call (.ref f) []) (EP X pins σ Q) X.xe s
/-- the cells cz and the things fz are known -/
def knows (cz : Hp) (fz : List (Addr × HO)) : HP := fun H => (∀ a o, cz a = some o → H a = some o) ∧ ∀ p ∈ fz, H p.1 = some p.2
/-- the cells of X as they stand, the names' values by σ -/
structure CzOk (X : Cx) (σ : L2.St) (cz : Hp) : Prop where
  k : CzK cz
  cell : ∀ x c, X.env.cells.lookup x = some c → ∃ oc, cz c = some (.frz oc (.own 0)) ∧ ∀ (i : Nat) (v : V), X.N[i]? = some x → σ[i]? = some (some v) → (X.env.scope.names.lookup x = some .cell ∨ X.env.scope.names.lookup x = some .free) → ∃ u, RelV v u ∧ oc.data = .cell (some u)
  len : σ.length = X.N.length
  inj : ∀ x y c, X.env.cells.lookup x = some c → X.env.cells.lookup y = some c → x = y
  has : ∀ x, (X.env.kindOf x = some .cell ∨ X.env.kindOf x = some .free) → ∃ c, X.env.cells.lookup x = some c
section
variable {X : Cx} {σ : L2.St} {cz : Hp} {scope : Scope} {l : List (Str × Int)} {f c' : Addr}
theorem clo_sub {y : Str} {c : Addr} (ok : CzOk X σ cz) (L : LamSc X.N X.env.scope scope l) (e : (cloFrom X.env.cells scope.names []).lookup y = some c) : X.env.cells.lookup y = some c := by
  rcases cloFrom_mem (PySem.mem_of_lookup e) with hm | ⟨h1, h2⟩
  · cases hm
  · have : ∃ c1, X.env.cells.lookup y = some c1 := by
      rcases L.free _ h1 rfl with z | z
      · exact ok.has y (.inl z)
      · exact ok.has y (.inr z)
    obtain ⟨c1, hc⟩ := this
    rw [h2, hc] <;> rfl
theorem clo_has {y : Str} (hl : scope.names.lookup y = some .free) : ∃ c, (cloFrom X.env.cells scope.names []).lookup y = some c :=
  mem_lookup (cloFrom_has (cells := X.env.cells) (acc := []) (PySem.mem_of_lookup hl))
/-- a lambda's body begins -/
theorem lam_begin {A : Around} {outer : List Env} {s1 : Shared} {HZ : Hp} {E : XK} {h₁ : Heap} {tk : Nat} {m : Str → Option Value} (ok : CzOk X σ cz) (L : LamSc X.N X.env.scope scope l) (hk : X.env.globals = mainGlobals) (e0 : Env0 X.prog X.w X.K X.mg X.base A outer s1 HZ) (hd : A.handled = none)
    (sb : ∀ a o, cz a = some o → HZ a = some o) (hns : h₁.Ns s1.heap.objs.size m) (kp : ∀ b o, s1.heap.get? b = some o → h₁.get? b = some o) :
    Inv (LamX.lamCx X A outer s1 (less cz HZ) E scope f c') [] σ (less cz HZ) { s1 with heap := h₁, toks := tk } := by
  have at1 : ∀ a oc v, cz a = some (.frz oc v) → h₁.get? a = some oc := fun a oc v e => kp _ _ (e0.hok a _ (sb a _ e)).1
  have hok : HOk X.prog X.w (less cz HZ) s1.heap := hok_less ok.k sb e0.hok
  have noA : ∀ b : Addr, b ∉ (LamX.lamCx X A outer s1 (less cz HZ) E scope f c').ex := fun b z => absurd (show b ∈ ([] : List Addr) from z) (by simp)
  have nolocal : ∀ y, scope.names.lookup y = some .local → y ∉ X.N := fun y h => L.loc _ (PySem.mem_of_lookup h) rfl
  have nocell : ∀ y, scope.names.lookup y ≠ some .cell := fun y h => L.cell _ (PySem.mem_of_lookup h) rfl
  have ln : ∀ {b : Addr}, HZ b = none → less cz HZ b = none := fun {b} e => by
    rcases cz_or cz b with ⟨o, q⟩ | q
    · exact less_cz q
    · rw [less_no q]; exact e
  have okc : (LamX.lamCx X A outer s1 (less cz HZ) E scope f c').Ok := by
    refine ⟨e0.mod, L.kind, rfl, rfl, Nat.le_refl _, fun y z c e1 e2 => ok.inj y z c (clo_sub ok L e1) (clo_sub ok L e2), fun y hy => ?_, fun y c z _ => ?_, fun _ => hd, Around.frames_deeper e0.frames, .inr ⟨rfl, rfl⟩, fun b z => absurd z (noA b), fun b o e => ⟨(e0.bs b o e).1, ln (e0.bs b o e).2⟩, e0.bsz,
      fun b _ _ => noA b, fun b z => absurd z (noA b), e0.funs, fun b hb => ln (e0.frf b hb)⟩
    · have hy : scope.names.lookup y = some .cell ∨ scope.names.lookup y = some .free := hy
      rcases hy with hy | hy
      · exact absurd hy (nocell y)
      · exact clo_has hy
    · have z : false = true := z
      cases z
  refine ⟨okc, rfl, e0.bare, Un.kept kp, ⟨m, hns, fun i y v e1 e2 e3 => ?_⟩, fun y c e => ?_, ?_, fun y c e => ?_, fun q hq => absurd (show q ∈ ([] : List (Addr × Obj)) ++ [] from hq) (by simp), hok.kept kp, ok.len⟩
  · have e3 : Vis scope y := e3
    rcases e3 with z | z | z
    · exact absurd (List.mem_of_getElem? e1) (nolocal y z)
    · exact absurd z (nocell y)
    · obtain ⟨c, hc⟩ := clo_has (X := X) z
      obtain ⟨oc, q1, q2⟩ := ok.cell y c (clo_sub ok L hc)
      obtain ⟨u, r, d⟩ := q2 i v e1 e2 (L.free _ (PySem.mem_of_lookup z) rfl)
      exact ⟨u, r, .inr ⟨.inr z, c, hc, oc, at1 c oc _ q1, d⟩⟩
  · obtain ⟨oc, q1, _⟩ := ok.cell y c (clo_sub ok L e)
    obtain ⟨oc2, e2, w, d⟩ := ok.k c _ q1
    cases e2
    exact ⟨w, oc, at1 c oc _ q1, d⟩
  · exact ln (e0.hok.fresh (Nat.le_refl _))
  · obtain ⟨oc, q1, _⟩ := ok.cell y c (clo_sub ok L e)
    exact less_cz q1
/-- what a lambda promises, by the reading t of its body at the maker's slots -/
def spLam (t : XK → TE) (σ : L2.St) (cz : Hp) : Sp := fun vs H Q Ex => vs = [] ∧ t (fun cls d H' => Ex cls d (join cz H')) σ (less cz H) fun v H' => Q v (join cz H')
theorem lam_bind0 {qual : Str} {body : Expr} {cl : List (Str × Addr)} {pm cv ctv : Value} : bindArgs (lamFd qual ⟨[], [], none, [], [], none, []⟩ body scope cl .none pm cv ctv) ⟨[], []⟩ = pure [] := rfl
theorem lam_bind1 {qual : Str} {body : Expr} {cl : List (Str × Addr)} {pm cv ctv : Value} {t : Addr} {a : Str} {i : Int} {j : Nat} {p p2 : Pos} (u : Value) : ∃ k, bindArgs (lamFd qual ⟨[], [⟨a, none, p⟩], none, [], [], none, [.Constant (.int i) j p2]⟩ body scope cl (.ref t) pm cv ctv) ⟨[], []⟩ = seqItems? (.ref t) >>= k ∧ k (some [u].toArray) = pure [(a, u)] := by
  refine ⟨_, rfl, ?_⟩
  simp [List.zip, List.lookup]
end
end Zw

set_option Elab.async false
set_option linter.all false
set_option maxRecDepth 100000
set_option maxHeartbeats 4000000
namespace Zw
open PySem PySem.Spec PyProof.Rows L2
section
variable {X : Cx} {σ : L2.St} {cz : Hp} {scope : Scope} {l : List (Str × Int)} {f : Addr} {fz : List (Addr × HO)} {params : Arguments} {body : Expr} {j : Nat} {t : XK → TE}
theorem cx_join {P : Program} {w : World} {outer : List Env} {H : Hp} {s : Shared} {E : XK} {u : Value} {s' : Shared} (k : CzK cz) (sb : ∀ a o, cz a = some o → H a = some o) (nf : ∀ a o, cz a = some o → a ∉ frs outer) (x : HOk P w H s.heap)
    (c : L2.CX P w outer (less cz H) s (fun cls d H2 => E cls d (join cz H2)) u s') : L2.CX P w outer H s E u s' := by
  obtain ⟨a, B, H2, cls, d, rfl, fl, hok, ub, na, os, ag, e⟩ := c
  obtain ⟨z1, z2, z3⟩ := ub_join k sb nf x ub
  refine ⟨a, B, join cz H2, cls, d, rfl, fl, hok_join k z1 z2 hok, z3, ?_, os, ag, e⟩
  rcases cz_or cz a with ⟨o, q⟩ | q
  · obtain ⟨oc, rfl, _⟩ := k a o q
    have h1 := z2 a oc _ q
    have h2 := fl.2.1
    rw [h1] at h2
    cases h2
  · rw [join_no q]
    exact na
/-- a made lambda keeps its body's promise wherever its cells are known -/
theorem lamOk_of (ok : CzOk X σ cz) (M : MadeBy X params body scope l f fz) (hp : LPar params l) (L : LamSc X.N X.env.scope scope l) (hg : X.env.globals = mainGlobals)
    (hb : ∀ (A : Around) (outer : List Env) (s : Shared) (H : Hp) (E : XK) (f c' : Addr), Room j (A.deeper (LamX.lamEnv X scope s.heap.objs.size f c')) → PE (LamX.lamCx X A outer s H E scope f c') body (t E)) :
    LamOk (rtOf X) (j + 1) f (knows cz fz) (spLam t σ cz) := by
  obtain ⟨dV, pm, c', od, ctv, m1, m2, m3, _⟩ := M
  refine ⟨fun P w H h x G => ?_, fun X' eX hr pins σ' H s Q E I G hx hq => ?_⟩
  · obtain ⟨e, _⟩ := x f _ (G.2 _ m1)
    exact ⟨_, _, _, _, e⟩
  · obtain ⟨G1, G2⟩ := G
    obtain ⟨_, hq⟩ := hq
    have hP : X'.prog = X.prog := congrArg Rt.P eX
    have hw : X'.w = X.w := congrArg Rt.w eX
    have hK : X'.K = X.K := congrArg Rt.K eX
    have hmg : X'.mg = X.mg := congrArg Rt.mg eX
    have hbs : X'.base = X.base := congrArg Rt.base eX
    have e0 : Env0 X.prog X.w X.K X.mg X.base X'.A X'.stack s H := by
      have := I.env0
      rw [hP, hw, hK, hmg, hbs] at this
      exact this
    have of1 : s.heap.get? f = some (lamO (X.env.qual ++ "<lambda>") params body scope (cloFrom X.env.cells scope.names []) dV pm (.ref c') ctv) := (e0.hok f _ (G2 _ m1)).1
    obtain ⟨_, ⟨oc, vs, tk, hoc, hdc, hvc⟩, _, _⟩ := e0.hok c' _ (G2 _ m2)
    have nf : ∀ a o, cz a = some o → a ∉ frs X'.stack := fun a o e hm => by
      have := e0.frf a hm
      rw [G1 a o e] at this
      cases this
    have lim : s.heap.NoLimit := I.nolimit
    -- the body, in its frame
    have inner : ∀ (binds : List (Str × Value)) (s1 : Shared), s1 = s → (∀ y ∈ binds, scope.names.lookup y.1 = some .local) → wpAny (model X.prog X.w) X'.A.in1
        (newFunctionEnv scope mainGlobals (cloFrom X.env.cells scope.names []) binds ((X.env.qual ++ "<lambda>") ++ ".<locals>.") (some f) (.ref c') none builtinsNs)
        (fun env s₂ => s₂.heap.NoLimit ∧ codeAny (model X.prog X.w) X'.A (.expr body env) (CR (L2.CX X.prog X.w) X'.stack X.prog X.w H s Q E) s₂) (fun e s' => CR (L2.CX X.prog X.w) X'.stack X.prog X.w H s Q E (.error e) s') s1 := by
      intro binds s1 e1 hl
      subst e1
      refine wpAny_newFunctionEnv (fun y hy => L.cell y hy) hl (fun h₁ hns hsb => ⟨lim.fresh _ hsb, ?_⟩) L.kind
      show codeAny _ _ (.expr body (LamX.lamEnv X scope s1.heap.objs.size f c')) _ _
      have kp : ∀ b o, s1.heap.get? b = some o → h₁.get? b = some o := fun b o e => hsb.extBut b o (Nat.ne_of_lt (Heap.lt_size e)) (Heap.get?_push_of_some _ e)
      have J : Inv (LamX.lamCx X X'.A X'.stack s1 (less cz H) (fun cls d H2 => E cls d (join cz H2)) scope f c') [] σ (less cz H) { s1 with heap := h₁, toks := s1.toks + binds.length } := lam_begin ok L hg e0 hr.hd G1 hns kp
      refine PySem.W.kla_codeExpr (wpAny_mono ((hb _ _ s1 _ _ f c' (hr.deeper _)).run [] _ _ _ _ J hq) (fun v s' hv => ?_) fun e s' he => ?_)
      · obtain ⟨w', H2, J', rv, q⟩ := hv
        obtain ⟨z1, z2, z3⟩ := un_join ok.k G1 nf e0.hok (show Un (frs X'.stack) [] (less cz H) H2 s1.heap s'.heap from J'.base)
        exact ⟨w', join cz H2, J'.os, J'.bare, z3, hok_join ok.k z1 z2 J'.hok, rv, q⟩
      · exact wpAny_mono (show wpAny _ _ _ (fun _ s'' => L2.CX X.prog X.w X'.stack (less cz H) s1 (fun cls d H2 => E cls d (join cz H2)) e s'') (fun e' s'' => L2.CX X.prog X.w X'.stack (less cz H) s1 (fun cls d H2 => E cls d (join cz H2)) e' s'') s' from he)
          (fun _ s'' q => cx_join ok.k G1 nf e0.hok q) fun _ s'' q => cx_join ok.k G1 nf e0.hok q
    have rc : codeAny (model X'.prog X'.w) X'.A (.call (.ref f) ⟨[], []⟩) (CR (L2.CX X'.prog X'.w) X'.stack X'.prog X'.w H s Q E) s := by
      rw [hP, hw]
      refine PySem.W.kla_callFunE hr.depth of1 rfl L.co L.gen rfl ⟨c', oc, vs, tk, rfl, hoc, hdc, hvc⟩ ?_
      cases hp with
      | p0 =>
        rcases m3 with ⟨_, rfl⟩ | ⟨_, z, _⟩
        · rw [lam_bind0]
          exact wpAny_pure (inner [] s rfl (fun y hy => by cases hy))
        · exact absurd rfl z
      | p1 a i jj p p2 =>
        rcases m3 with ⟨z, _⟩ | ⟨tt, _, rfl, ht⟩
        · cases z
        · obtain ⟨_, its, rv, o, h1, h2, n, h3⟩ := e0.hok tt _ (G2 _ ht)
          cases rv with
          | cons r1 r2 =>
            cases r2
            rename_i u
            obtain ⟨k, e1, e2⟩ := lam_bind1 (scope := scope) (qual := X.env.qual ++ "<lambda>") (body := body) (cl := cloFrom X.env.cells scope.names []) (pm := pm) (cv := .ref c') (ctv := ctv) (t := tt) (a := a) (i := i) (j := jj) (p := p) (p2 := p2) u
            rw [e1]
            refine wpAny_bind (wpAny_seqItems h1 h3 ?_)
            rw [e2]
            refine wpAny_pure (inner [(a, u)] s rfl (fun y hy => ?_))
            rcases List.mem_cons.mp hy with rfl | hy
            · exact (L.par (a, i) List.mem_cons_self).1
            · cases hy
    refine wpAny_call (codeAny_mono rc fun r s' hq' => ?_)
    cases r with
    | error e => exact hx pins H s e s' I hq'
    | ok fl =>
      cases fl with
      | ret u => exact I.after hq'
      | next => exact False.elim hq'
      | brk => exact False.elim hq'
      | cont => exact False.elim hq'
/-! ## a call to which lambdas are handed: the cells are known meanwhile -/
structure CallEnv (R : Rt) (k : Nat) (f : Addr) (sp : Sp) : Prop where
  run : ∀ (A : Around) (outer : List Env) (s : Shared) (H : Hp) (us : List Value) (vs : List V) (Q : VK), Room k A → Env0 R.P R.w R.K R.mg R.base A outer s H → Vals vs us → sp vs H Q (fun _ _ _ => False) →
    codeAny (model R.P R.w) A (.call (.ref f) ⟨us, []⟩) (CR (L2.CX R.P R.w) outer R.P R.w H s Q fun _ _ _ => False) s
theorem CallEnv.fn {R : Rt} {i k : Nat} {f : Addr} {fd : FuncData} {ps : List Str} {sp : Sp} (F : FnOk R.P R.w R.K R.mg R.base (L2.CX R.P R.w) i f fd ps sp) (hb : Binds R.K fd ps []) (h : i ≤ k) : CallEnv R k f sp :=
  ⟨fun A outer s H us vs Q hr e0 r q => by
    have hl : us.length = ps.length := by rw [← r.length]; exact F.len _ _ _ _ q
    have b := hb s us (e0.mod.kin.keeps fun b o e => (e0.bs b o e).1) (by rw [List.append_nil]; exact hl)
    rw [List.append_nil] at b
    exact F.run A outer s H ⟨us, []⟩ us vs Q _ (hr.mono h) e0 b r q⟩
open Classical in
noncomputable def czOf (X : Cx) (s : Shared) : Hp := fun a => if ∃ x, X.env.cells.lookup x = some a then (s.heap.get? a).map fun o => HO.frz o (.own 0) else none
theorem czOf_some {s : Shared} {a : Addr} {o : HO} (e : czOf X s a = some o) : (∃ x, X.env.cells.lookup x = some a) ∧ ∃ oc, s.heap.get? a = some oc ∧ o = .frz oc (.own 0) := by
  unfold czOf at e
  split at e
  · rename_i hx
    obtain ⟨oc, h1, h2⟩ := Option.map_eq_some_iff.mp e
    exact ⟨hx, oc, h1, h2.symm⟩
  · cases e
theorem czOf_at {s : Shared} {x : Str} {c : Addr} {oc : Obj} (h : X.env.cells.lookup x = some c) (e : s.heap.get? c = some oc) : czOf X s c = some (.frz oc (.own 0)) := by
  unfold czOf
  rw [if_pos ⟨x, h⟩, e] <;> rfl
theorem czOk {pins : List (Addr × Obj)} {H : Hp} {s : Shared} (I : Inv X pins σ H s) : CzOk X σ (czOf X s) := by
  refine ⟨fun a o e => ?_, fun x c hc => ?_, I.len, fun x y c a b => I.ok.inj x y c a b, fun x h => I.ok.has x h⟩
  · obtain ⟨⟨x, hx⟩, oc, h1, rfl⟩ := czOf_some e
    obtain ⟨v, o2, e2, d⟩ := I.cell x a hx
    rw [h1] at e2
    cases e2
    exact ⟨oc, rfl, v, d⟩
  · obtain ⟨v, oc, e2, d⟩ := I.cell x c hc
    refine ⟨oc, czOf_at hc e2, fun i v' h1 h2 h3 => ?_⟩
    obtain ⟨m, hn, hl⟩ := I.loc
    obtain ⟨u, r, lk⟩ := hl i x v' h1 h2 (h3.elim (fun z => .inr (.inl z)) fun z => .inr (.inr z))
    rcases lk with ⟨z, _⟩ | ⟨_, c2, hc2, oc2, e3, d3⟩
    · have z : X.env.scope.names.lookup x = some .local := z
      rcases h3 with h3 | h3 <;> (rw [h3] at z; cases z)
    · rw [hc] at hc2
      cases hc2
      rw [e2] at e3
      cases e3
      exact ⟨u, r, d3⟩
/-- the callee runs while the cells are known -/
theorem run_z {k : Nat} {g : Addr} {sp : Sp} {pins : List (Addr × Obj)} {H : Hp} {s : Shared} {Q : VK} {us : List Value} {vs : List V} (F : CallEnv (rtOf X) k g sp) (hr : Room k X.A) (hfn : ∀ x, X.fn x = true) (I : Inv X pins σ H s) (r : Vals vs us)
    (h : sp vs (join (czOf X s) H) (fun v H2 => (∀ a o, czOf X s a = some o → H2 a = some o) → Q v (less (czOf X s) H2)) fun _ _ _ => False) :
    wpAny (model X.prog X.w) X.A (PySem.call (.ref g) us) (EP X pins σ Q) X.xe s := by
  have ck := (czOk I).k
  have cn : ∀ a o, czOf X s a = some o → H a = none := fun a o e => by
    obtain ⟨⟨x, hx⟩, _⟩ := czOf_some e
    exact I.freeC x a hx
  have ca : ∀ a o, czOf X s a = some o → X.s_0.heap.objs.size ≤ a := fun a o e => by
    obtain ⟨⟨x, hx⟩, _⟩ := czOf_some e
    exact I.ok.cab x a (hfn x) hx
  have cg : ∀ a oc u, czOf X s a = some (.frz oc u) → s.heap.get? a = some oc := fun a oc u e => by
    obtain ⟨_, oc2, h1, h2⟩ := czOf_some e
    cases h2
    exact h1
  have cf : ∀ a o, czOf X s a = some o → a ∉ frs X.stack := fun a o e hm => by
    obtain ⟨⟨x, hx⟩, _⟩ := czOf_some e
    rcases List.mem_cons.mp (I.stkSub a hm) with z | z
    · exact I.cne x a hx z
    · obtain ⟨_, o2, e2, _⟩ := I.ok.funs.mem z
      exact absurd (Nat.lt_of_lt_of_le (Heap.lt_size e2) (ca a o e)) (Nat.lt_irrefl _)
  have e0 := I.env0
  have e1 : Env0 X.prog X.w X.K X.mg X.base X.A X.stack s (join (czOf X s) H) := by
    refine ⟨e0.frames, e0.mod, fun b o e => ⟨(e0.bs b o e).1, ?_⟩, e0.bsz, e0.funs, fun b hb => ?_, hok_join ck cn cg I.hok, e0.bare⟩
    · rcases cz_or (czOf X s) b with ⟨u, q⟩ | q
      · exact absurd (Nat.lt_of_lt_of_le (Heap.lt_size (I.ok.bs b o e).1) (ca b u q)) (Nat.lt_irrefl _)
      · rw [join_no q]
        exact (e0.bs b o e).2
    · rcases cz_or (czOf X s) b with ⟨u, q⟩ | q
      · exact absurd hb (cf b u q)
      · rw [join_no q]
        exact e0.frf b hb
  refine wpAny_call (codeAny_mono (F.run X.A X.stack s _ us vs _ hr e1 r h) fun r s' hq => ?_)
  cases r with
  | error e =>
    obtain ⟨_, _, _, _, _, _, _, _, _, _, _, _, z⟩ := (show L2.CX X.prog X.w X.stack _ s (fun _ _ _ => False) e s' from hq)
    exact z.elim
  | ok fl =>
    cases fl with
    | ret u =>
      obtain ⟨v, H2, os, bare, un, hok, rv, q⟩ := hq
      have un : Un (frs X.stack) [] (join (czOf X s) H) H2 s.heap s'.heap := un
      have kept : ∀ a o, czOf X s a = some o → H2 a = some o := fun a o e => by
        obtain ⟨oc, rfl, _⟩ := ck a o e
        exact un.frzs a oc _ (join_cz e)
      have no : ∀ {b : Addr} {o : HO}, H b = some o → czOf X s b = none := fun {b o} e => by
        rcases cz_or (czOf X s) b with ⟨u, q⟩ | q
        · rw [cn b u q] at e; cases e
        · exact q
      have hokq : HOk X.prog X.w H2 s'.heap := hok
      refine ⟨v, less (czOf X s) H2, I.call' (ch := []) os ⟨fun b o e n hb hx => ?_, fun b o e n hb hx => ?_, fun b o e n hx => ?_, un.there, fun b xs e => ?_, fun b o u e => ?_, fun b ps e => ?_⟩ (hok_less ck kept hokq) bare (fun b z => absurd z (by simp)), rv, q kept⟩
      · rcases cz_or (czOf X s) b with ⟨u, q⟩ | q
        · obtain ⟨oc, rfl, _⟩ := ck b u q
          have := cg b oc _ q
          rw [e] at this
          cases this
          exact (hokq b _ (kept b _ q)).1
        · exact un.keep b o e (by rw [join_no q]; exact n) hb hx
      · rcases cz_or (czOf X s) b with ⟨u, q⟩ | q
        · exact absurd hb (cf b u q)
        · exact un.slot b o e (by rw [join_no q]; exact n) hb hx
      · rcases cz_or (czOf X s) b with ⟨u, q⟩ | q
        · exact less_cz q
        · rw [less_no q]
          exact un.free b o e (by rw [join_no q]; exact n) hx
      · rw [less_no (no e)]
        exact un.tups b xs (by rw [join_no (no e)]; exact e)
      · rw [less_no (no e)]
        exact un.frzs b o u (by rw [join_no (no e)]; exact e)
      · rw [less_no (no e)]
        exact un.tbls b ps (by rw [join_no (no e)]; exact e)
    | next => exact False.elim hq
    | brk => exact False.elim hq
    | cont => exact False.elim hq
end
end Zw

set_option Elab.async false
set_option linter.all false
set_option maxRecDepth 100000
set_option maxHeartbeats 4000000
namespace Zw
open PySem PySem.Spec PyProof.Rows L2
/-! ## d.update(e); x, *y = a list -/
/-- the same walk, from a later item on -/
theorem walks_from {prog : Program} {w : World} {A : Around} {I : Addr} {fp wr : List Addr} {n m k : Nat} {P : Nat → Value → Prop} {St : Nat → Heap → Prop} (W : Walks prog w A I fp wr n P St) (e : k + m = n) :
    Walks prog w A I fp wr m (fun i v => P (k + i) v) (fun i h => St (k + i) h) where
  sub := W.sub
  frame := fun i h h' st q => W.frame (k + i) h h' st q
  item := fun i s Q E hi st hQ => W.item (k + i) s Q E (by omega) st fun v h' tk p st' q => hQ v h' tk p st' q
  done := fun s Q E st hQ => W.done s Q E (by rw [← e]; exact st) hQ
  self := fun i s Q E st hQ => W.self (k + i) s Q E st hQ
section
variable {prog : Program} {w : World} {A : Around} {E : Value → Shared → Prop} {s : Shared}
theorem unpack_star {l : Addr} {v : Value} {rest : List Value} {Q : List Value → Shared → Prop} (hh : A.handled = none) (hl : s.heap.IsList l (v :: rest).toArray) (hz : rest.length + 1 ≤ sizeLine)
    (hQ : ∀ (h' : Heap) tk gs, gs = s.gens → (∀ b o, s.heap.get? b = some o → h'.get? b = some o) → Q [v, .ref h'.objs.size] { s with heap := h'.push { cls := .type "list", data := .seq rest.toArray }, toks := tk, gens := gs }) :
    wpAny (model prog w) A (unpackItems (.ref l) 2 (some 1)) Q E s := by
  have hlt : l < s.heap.objs.size := by obtain ⟨o, ho, _⟩ := hl; exact Heap.lt_size ho
  have hne : l ≠ s.heap.objs.size := Nat.ne_of_lt hlt
  unfold unpackItems
  refine wpAny_bind ?_
  unfold notIterableAtAll
  refine wpAny_bind (wpAny_specialOf hl.typeIs slot_list_iter.lookup ?_)
  refine wpAny_pure ?_
  simp only [Bool.false_eq_true, if_false]
  refine wpAny_bind (wpAny_holding (wpAny_pyIter_list hl ?_))
  refine wpAny_bind (wpAny_holding (PySem.W.kun_draw hne 1 0 _ _ ⟨_, Heap.get?_push_size _ rfl, rfl, rfl⟩ (hl.push _) (by simp) fun h₁ hit₁ hs₁ => ?_))
  have e1 : List.take 1 (List.drop 0 (v :: rest).toArray.toList) = [v] := by simp
  rw [e1]
  rw [if_neg (by simp)]
  have hl₁ : h₁.IsList l (v :: rest).toArray := (hl.push _).extBut hs₁.extBut hne
  have kp : ∀ b o, s.heap.get? b = some o → h₁.get? b = some o := fun b o e => hs₁.extBut b o (Nat.ne_of_lt (Heap.lt_size e)) (Heap.get?_push_of_some _ e)
  refine wpAny_bind (wpAny_holding ?_)
  have W := walks_from (k := 1) (m := rest.length) (Walks.list (prog := prog) (w := w) (A := A.in1) hh s.heap.objs.size l hne (v :: rest).toArray) (by simp; omega)
  have big : s.heap.objs.size < h₁.objs.size := by
    obtain ⟨o, ho, _⟩ := hit₁
    exact Heap.lt_size ho
  refine wpAny_collect_iter (.inr (.inr (.inl rfl))) W.toS (fun i s' st => ?_) ⟨hit₁, hl₁⟩ (fun b hb => ?_) (by simp) (fun s' acc mv ha => ?_) (by omega)
  · obtain ⟨⟨o, ho, hc, _⟩, _⟩ := st
    exact ⟨o, ho, hc⟩
  · rcases List.mem_cons.mp hb with rfl | hb
    · exact big
    · obtain rfl := List.mem_singleton.mp hb
      exact Nat.lt_trans hlt big
  · have ea : acc.toList = rest := by
      obtain ⟨a1, a2⟩ := ha
      apply List.ext_getElem?
      intro i
      by_cases hi : i < rest.length
      · have hi' : i < acc.size := by omega
        have : (v :: rest).toArray[1 + i]? = some acc[i] := a2 i acc[i] (by simp [hi'])
        have e : (v :: rest).toArray[1 + i]? = rest[i]? := by simp [Nat.add_comm 1 i]
        rw [e] at this
        rw [this]
        simp [hi']
      · rw [List.getElem?_eq_none_iff.mpr (by simp; omega), List.getElem?_eq_none_iff.mpr (by omega)]
    rw [ea]
    show wpAny _ _ (if rest.length < 0 then _ else _) _ _ _
    rw [if_neg (by omega)]
    refine wpAny_bind ?_
    have e2 : List.take (rest.length - (2 - 1 - 1)) rest = rest := by simp
    rw [e2]
    obtain ⟨h2, g2, d2, t2, o2⟩ := s'
    have m1 := mv.heap
    have m2 := mv.gens
    have m3 := mv.drawn
    have m4 := mv.os
    dsimp only at m1 m2 m3 m4
    refine wpAny_newList ?_ (by omega)
    refine wpAny_pure ?_
    have e3 : List.drop (rest.length - (2 - 1 - 1)) rest = [] := by simp
    rw [e3]
    have := hQ h2 t2 g2 m2 fun b o e => m1 b o (fun hb => by
      obtain rfl := List.mem_singleton.mp hb
      exact Nat.lt_irrefl _ (Heap.lt_size e)) (kp b o e)
    rw [m3, m4]
    exact this
end
section
variable {X : Cx} {σ : L2.St}
theorem putK_le_len (kvs : List (Key × V)) (k : Key) (v : V) : (putK kvs k v).length ≤ kvs.length + 1 := by
  unfold putK
  split <;> simp
theorem m_update : MtR X "dict.update" (fun x vs H Q => ∃ a b kvs more, x = .ref a ∧ vs = [.ref b] ∧ a ≠ b ∧ H a = some (.dK kvs) ∧ H b = some (.dK more) ∧ kvs.length + more.length ≤ sizeLine ∧ Q .non (upd H a (.dK (mergeK kvs more)))) := by
  intro pins s σ H x xs v us Q I rx rs q
  obtain ⟨a, b, kvs, more, rfl, rfl, hne, ea, eb, hz, q⟩ := q
  obtain rfl : v = Value.ref a := rx
  obtain ⟨u, rfl, ru⟩ := Vals.one rs
  obtain rfl : u = Value.ref b := ru
  obtain ⟨z, hd, vs, rel, dd⟩ := dk_of I.hok ea
  obtain ⟨z2, hd2, ws, rel2, dd2⟩ := dk_of I.hok eb
  refine call_meetsIn PySem.F.slot_dict_update dd.typeIs PySem.F.entry_dict_update (PySem.F.args_dict_update_2 _ _) (meets_dict_update (mixKind X.prog X.w) a b hne hd2)
    ⟨vs, ws, dd, dd2, by rw [← rel.length, ← rel2.length]; exact hz, fun h' hmm _ hs => ?_⟩
  have he : ∃ q, h'.get? a = some q := let ⟨q, _, _, hq, _⟩ := hmm; ⟨q, hq⟩
  have len : ∀ (more kvs : List (Key × V)), (mergeK kvs more).length ≤ kvs.length + more.length := by
    intro more
    induction more with
    | nil => intro kvs; exact Nat.le_refl _
    | cons p r ih =>
      intro kvs
      have h1 := ih (putK kvs p.1 p.2)
      have h2 := putK_le_len kvs p.1 p.2
      show (mergeK (putK kvs p.1 p.2) r).length ≤ _
      simp only [List.length_cons]
      omega
  exact ⟨.non, _, d_write (t' := s.toks) I (by rw [ea]; exact True.intro) hs he (dk_new (Nat.le_trans (len more kvs) hz) hd (rel2.merge rel) hmm), rfl, q⟩
end
end Zw

set_option Elab.async false
set_option linter.all false
set_option maxRecDepth 100000
set_option maxHeartbeats 4000000
namespace Zw
open PySem PySem.Spec PyProof.Rows L2

/-! ## the text in small: expressions, targets, statements, names by their places -/
/-- built-in functions and types that are called -/
inductive Bi where
  | len | isinstance | int | bool | str | list | tuple | sorted | min | max | abs | sum | any | all
  deriving DecidableEq
/-- methods of built-in values -/
inductive Mt where
  | append | pop | popAt | extend | clear | reverse | index | count | insert | dget1 | dget2 | dpop1 | dpop2 | split | join | isdigit | update
  deriving DecidableEq
mutual
inductive E where
  | var (i : Nat) | glob (x : Str) | bltn (x : Str)
  | int (i : Int) | str (s : Str) | bl (b : Bool) | non
  | bin (op : Operator) (a b : E) | neg (a : E) | nt (a : E)
  | cmp (op : CmpOp) (a b : E) | chain (o1 o2 : CmpOp) (a b c : E)
  | and2 (a b : E) | or2 (a b : E) | ife (t : T) (a b : E)
  | fld (a : E) (f : Str) | sub (a i : E) | inG (ng : Bool) (a : E) (x : Str) | subG (x : Str) (i : E) | cut (a : E) (lo hi : O)
  | tup (es : Es) | tupS (a b : E) | lst (es : Es) | dct (es : Es) | dct0
  | call (x : Str) (es : Es) | callB (b : Bi) (es : Es) | callL (i : Nat) | lam (b : E) | callZ (x : Str) (es : Es) | meth (a : E) (m : Str) (ms : List Mt) (es : Es)
  | comp (elt : E) (tg : Tg) (it : I) (tt : T) (own : List Nat)
inductive Es where
  | nil | cons (e : E) (es : Es)
inductive O where
  | no | part (e : E)
inductive T where
  | yes | nt (a : T) | and2 (a b : T) | or2 (a b : T) | cmp (e : E) | val (e : E)
inductive I where
  | rng1 (a : E) | rng2 (a b : E) | seq (e : E) | enum (e : E) | zip (a b : E) | items (e : E)
inductive Tg where
  | nm (i : Nat) | tp (is : List Nat)
end
/-- targets of an unpacking: names and items -/
inductive Tts where
  | nil | nm (i : Nat) (r : Tts) | sb (a i : E) (r : Tts)
def Tts.len : Tts → Nat
  | .nil => 0
  | .nm _ r => r.len + 1
  | .sb _ _ r => r.len + 1
mutual
inductive S where
  | set (i : Nat) (e : E) | setTup (ts : Tts) (e : E) | par (i j : Nat) (a b : E) | setFld (a : E) (f : Str) (e : E) | setSub (a i e : E)
  | aug (i : Nat) (op : Operator) (e : E) | augFld (a : E) (f : Str) (op : Operator) (e : E)
  | ret (e : E) | retN | exp (e : E) | doc | pass | brk | cont
  | ifs (t : T) (a b : Ss) | whl (t : T) (a : Ss) | fors (tg : Tg) (it : I) (a : Ss)
  | raise (x : Str) | unpS (i j : Nat) (e : E) | dead | tryAs (x : Str) (i : Nat) (a b : Ss) | tryOn (x : Str) (a b : Ss)
inductive Ss where
  | nil | cons (s : S) (r : Ss)
end

/-! ## readings of single steps -/
def rBin (K : PySem.W.Frag) : Operator → R2
  | .Add => fun x y H Q => rI0 (fun i j => .int (i + j)) x y H Q ∨ (∃ i j, x = .str i ∧ y = .str j ∧ i.length + j.length ≤ sizeLine ∧ Q (.str (i ++ j)) H) ∨ rCat x y H Q ∨ rCatA K x y H Q
  | .Sub => rI0 fun i j => .int (i - j)
  | .Mult => fun x y H Q => rI CMul (fun i j => .int (i * j)) x y H Q ∨ rI CMulW (fun i j => .int (i * j)) x y H Q ∨ rRep x y H Q
  | .FloorDiv => fun x y H Q => rI CDivW (fun i j => .int (i / j)) x y H Q
  | .Mod => rI (fun _ j => 0 < j) fun i j => .int (i % j)
  | .Pow => rI CPow fun i j => .int (i ^ j.toNat)
  | _ => fun _ _ _ _ => False
def rDIn (neg : Bool) : R2 := fun y x H Q => ∃ a o, x = .ref a ∧ DGet H a y o ∧ Q (.bl (if neg then !o.isSome else o.isSome)) H
/-- the one text within the other -/
def rInS : R2 := fun x y H Q => ∃ (c : Nat) (z : Str), x = .str ⟨#[c]⟩ ∧ y = .str z ∧ Q (.bl (decide (c ∈ z.cps.toList))) H
def rCmp (K : PySem.W.Frag) : CmpOp → R2
  | .Eq => fun x y H Q => rEq x y H Q ∨ rEqD K x y H Q ∨ rEqV K x y H Q
  | .NotEq => fun x y H Q => rNe x y H Q ∨ rNeD K x y H Q
  | .Lt => rI0 fun i j => .bl (decide (i < j))
  | .LtE => rI0 fun i j => .bl (decide (i ≤ j))
  | .Gt => rI0 fun i j => .bl (decide (j < i))
  | .GtE => rI0 fun i j => .bl (decide (j ≤ i))
  | .Is => fun x y H Q => y = .non ∧ Q (.bl (decide (x = .non))) H
  | .IsNot => fun x y H Q => y = .non ∧ Q (.bl (!decide (x = .non))) H
  | .In => fun x y H Q => rIn K false x y H Q ∨ rInD K x y H Q ∨ rDIn false x y H Q ∨ rInS x y H Q
  | .NotIn => fun x y H Q => rIn K true x y H Q ∨ rNotInD K x y H Q ∨ rDIn true x y H Q
def rIxD : R2 := fun x y H Q => ∃ a v, x = .ref a ∧ DGet H a y (some v) ∧ Q v H
def rSubs (K : PySem.W.Frag) : R2 := fun x y H Q => rIx K x y H Q ∨ rIxD x y H Q
def rCut (K : PySem.W.Frag) : V → Option Int → Option Int → Hp → VK → Prop := fun x lo hi H Q => rSlL K x lo hi H Q ∨ rSlA K x lo hi H Q ∨ rSlS x lo hi H Q
/-- whether a dict of the module has a key -/
def KHas (K : PySem.W.Frag) (w : World) (p : Addr) (z : Str) (b : Bool) : Prop := ∃ es n r, K.lookup p = some ⟨.type "dict", none, .dict es n, #[]⟩ ∧ PySem.W.KeysLit w.params es.toList ∧ (p == sysModules) = false ∧ PySem.W.nsIn K p z = some r ∧ r.isSome = b
def rInK (K : PySem.W.Frag) (w : World) (ng : Bool) : R2 := fun x y H Q => ∃ p z b, x = .str z ∧ y = .ref p ∧ KHas K w p z b ∧ Q (.bl (if ng = true then !b else b)) H
def rFld (K : PySem.W.Frag) (x : V) (f : Str) (H : Hp) (Q : VK) : Prop := ∃ a C dx fs v, x = .ref a ∧ H a = some (.ins C dx fs) ∧ Cls K C ∧ NoAttr K C f ∧ fs.lookup f = some v ∧ Q v H
/-- the exception that a suite holds: where, its class, its dict -/
abbrev XC := Option (Addr × Value × Option Addr)
def rIsH (K : PySem.W.Frag) (xc : XC) : List V → Hp → VK → Prop := fun xs H Q => ∃ a C, xc = some (a, .ref C, none) ∧ ExcC K C ∧ rIsE K C a xs H Q
def rBi (K : PySem.W.Frag) (xc : XC) : Bi → List V → Hp → VK → Prop
  | .len => fun xs H Q => ∃ x n, xs = [x] ∧ LenV K x H n ∧ Q (.int n) H
  | .isinstance => fun xs H Q => (rIsi K xs H Q ∨ rIsiT K xs H Q) ∨ rIsH K xc xs H Q
  | .int => fun xs H Q => ((∃ i, xs = [.int i] ∧ Q (.int i) H) ∨ ∃ k, xs = [.bl k] ∧ Q (.int (if k then 1 else 0)) H) ∨ ∃ a n, xs = [.str a] ∧ PySem.intText? a = some n ∧ a.length ≤ 640 ∧ Q (.int n) H
  | .bool => fun xs H Q => (∃ i, xs = [.int i] ∧ Q (.bl (i != 0)) H) ∨ ∃ k, xs = [.bl k] ∧ Q (.bl k) H
  | .str => fun xs H Q => (∃ i, xs = [.int i] ∧ i.natAbs.log2 < 1920 ∧ Q (.str (toString i)) H) ∨ ∃ a, xs = [.str a] ∧ Q (.str a) H
  | .list => fun xs H Q => ∃ p ys, xs = [.ref p] ∧ (SqL K H p ys ∨ SqT K H p ys) ∧ ∀ l, H l = none → Q (.ref l) (upd H l (.lst ys))
  | .tuple => fun xs H Q => ∃ p ys, xs = [.ref p] ∧ ((SqL K H p ys ∧ ∀ l, H l = none → Q (.ref l) (upd H l (.tup ys))) ∨ (SqT K H p ys ∧ Q (.ref p) H))
  | .sorted => rSorted K
  | .min => fun xs H Q => ∃ i j, xs = [.int i, .int j] ∧ Q (.int (if j < i then j else i)) H
  | .max => fun xs H Q => ∃ i j, xs = [.int i, .int j] ∧ Q (.int (if j > i then j else i)) H
  | .abs => fun xs H Q => ∃ i, xs = [.int i] ∧ Q (.int (if i < 0 then -i else i)) H
  | .sum => rSum K
  | .any => rAny K
  | .all => rAll K

/-! ## targets -/
def setMany : L2.St → List Nat → List V → L2.St
  | σ, i :: is, v :: vs => setMany (σ.set i (some v)) is vs
  | σ, _, _ => σ
def rUnp (K : PySem.W.Frag) (is : List Nat) : TG := fun v σ H Q => ∃ a xs, v = .ref a ∧ (SqT K H a xs ∨ SqL K H a xs) ∧ xs.length = is.length ∧ Q (setMany σ is xs) H
def gTg (K : PySem.W.Frag) : Tg → TG
  | .nm i => gName i
  | .tp is => rUnp K is
/-- methods of built-in values -/
def mtT : Mt → String
  | .append | .pop | .popAt | .extend | .clear | .reverse | .index | .count | .insert => "list"
  | .dget1 | .dget2 | .dpop1 | .dpop2 | .update => "dict"
  | .split | .join | .isdigit => "str"
def rMt (K : PySem.W.Frag) : Mt → V → List V → Hp → VK → Prop
  | .append => rAppend
  | .pop => rPop
  | .popAt => rPopAt
  | .extend => rExtend
  | .clear => rClear
  | .reverse => rReverse
  | .index => fun x xs H Q => rIndex K x xs H Q ∨ rIndexD K x xs H Q
  | .count => fun x xs H Q => ∃ a ys y, x = .ref a ∧ xs = [y] ∧ SqL K H a ys ∧ flatV y = true ∧ ys.all flatV = true ∧ Q (.int (ys.countP fun z => eqV z y : Nat)) H
  | .insert => fun x vs H Q => ∃ (l : Addr) (xs : List V) (i : Int) (y : V), x = .ref l ∧ vs = [.int i, y] ∧ H l = some (.lst xs) ∧ xs.length < sizeLine ∧ 0 ≤ i ∧ i < 2 ^ 63 ∧ Q .non (upd H l (.lst (xs.take i.toNat ++ [y] ++ xs.drop i.toNat)))
  | .dget1 => fun x vs H Q => ∃ a y o, x = .ref a ∧ vs = [y] ∧ DGet H a y o ∧ Q (o.getD .non) H
  | .dget2 => fun x vs H Q => ∃ a y d o, x = .ref a ∧ vs = [y, d] ∧ DGet H a y o ∧ Q (o.getD d) H
  | .dpop1 => fun x vs H Q => ∃ a kvs k v, x = .ref a ∧ vs = [kV k] ∧ H a = some (.dK kvs) ∧ valV kvs k = some v ∧ Q v (upd H a (.dK (dropK kvs k)))
  | .dpop2 => fun x vs H Q => ∃ a kvs k d, x = .ref a ∧ vs = [kV k, d] ∧ H a = some (.dK kvs) ∧ ((∃ v, valV kvs k = some v ∧ Q v (upd H a (.dK (dropK kvs k)))) ∨ (valV kvs k = none ∧ Q d H))
  | .split => fun x xs H Q => ∃ a b, x = .str a ∧ xs = [.str b] ∧ (b.length == 0) = false ∧ a.length + 2 ≤ sizeLine ∧ rNewStrs (Txt.split a b) H Q
  | .join => fun x xs H Q => ∃ a p, ∃ ys : List Str, x = .str a ∧ xs = [.ref p] ∧ (SqL K H p (ys.map V.str) ∨ SqT K H p (ys.map V.str)) ∧ (ys.map (·.length)).sum + ys.length * a.length ≤ 16777216 ∧ Q (.str (Txt.join a ys)) H
  | .isdigit => fun x xs H Q => ∃ a, x = .str a ∧ xs = [] ∧ True ∧ Q (.bl (Txt.isdigit a)) H
  | .update => fun x vs H Q => ∃ a b kvs more, x = .ref a ∧ vs = [.ref b] ∧ a ≠ b ∧ H a = some (.dK kvs) ∧ H b = some (.dK more) ∧ kvs.length + more.length ≤ sizeLine ∧ Q .non (upd H a (.dK (mergeK kvs more)))
/-- no exception -/
abbrev W0 : WX := fun _ _ _ _ => False

/-- the lambdas that a frame made: where, what is known there, what each promises by level, slots and cells -/
abbrev MT := Addr → List (Addr × HO) → (Nat → L2.St → Hp → Sp) → Prop
structure Rx extends Rt where
  T : List (Addr × Str)
  M : MT
  xc : XC := none

/-! ## the reading of an expression -/
mutual
def wE (R : Rx) (k : Nat) : E → WX → L2.St → Hp → VK → Prop
  | .var i, _, σ, H, Q => ∃ v, σ[i]? = some (some v) ∧ Q v H
  | .glob x, _, _, H, Q => ∃ v u, R.mg x = some u ∧ RelV v u ∧ Q v H
  | .bltn x, _, _, H, Q => ∃ v u, bootBuiltins x = some u ∧ RelV v u ∧ Q v H
  | .int i, _, _, H, Q => Q (.int i) H
  | .str z, _, _, H, Q => Q (.str z) H
  | .bl b, _, _, H, Q => Q (.bl b) H
  | .non, _, _, H, Q => Q .non H
  | .bin op a b, W, σ, H, Q => wE R k a W σ H fun x H1 => wE R k b W σ H1 fun y H2 => rBin R.K op x y H2 Q
  | .neg a, W, σ, H, Q => wE R k a W σ H fun x H1 => ∃ i, x = .int i ∧ Q (.int (-i)) H1
  | .nt a, W, σ, H, Q => wE R k a W σ H fun x H1 => ∃ c, TruV R.K x H1 c ∧ Q (.bl (!c)) H1
  | .cmp op a b, W, σ, H, Q => wE R k a W σ H fun x H1 => wE R k b W σ H1 fun y H2 => rCmp R.K op x y H2 Q
  | .inG ng a x, W, σ, H, Q => wE R k a W σ H fun v H1 => ∃ y u, R.mg x = some u ∧ RelV y u ∧ (rInK R.K R.w ng v y H1 Q ∨ rCmp R.K (if ng = true then .NotIn else .In) v y H1 Q)
  | .subG x i, W, σ, H, Q => ∃ y u, R.mg x = some u ∧ RelV y u ∧ wE R k i W σ H fun v H1 => (L2.rIxD R.K R.w y v H1 Q ∨ rSubs R.K y v H1 Q)
  | .chain o1 o2 a b c, W, σ, H, Q => wE R k a W σ H fun x H1 => wE R k b W σ H1 fun y H2 => rCmp R.K o1 x y H2 fun z H3 => ∃ c1, z = .bl c1 ∧
      if c1 = true then wE R k c W σ H3 fun v H4 => rCmp R.K o2 y v H4 Q else Q (.bl false) H3
  | .and2 a b, W, σ, H, Q => wE R k a W σ H fun x H1 => ∃ c, TruV R.K x H1 c ∧ if c = true then wE R k b W σ H1 Q else Q x H1
  | .or2 a b, W, σ, H, Q => wE R k a W σ H fun x H1 => ∃ c, TruV R.K x H1 c ∧ if c = true then Q x H1 else wE R k b W σ H1 Q
  | .ife t a b, W, σ, H, Q => wT R k t W σ H fun c H1 => if c = true then wE R k a W σ H1 Q else wE R k b W σ H1 Q
  | .fld a f, W, σ, H, Q => wE R k a W σ H fun x H1 => rFld R.K x f H1 Q
  | .sub a i, W, σ, H, Q => wE R k a W σ H fun x H1 => wE R k i W σ H1 fun y H2 => rSubs R.K x y H2 Q
  | .cut a lo hi, W, σ, H, Q => wE R k a W σ H fun x H1 => wO R k lo W σ H1 fun l H2 => wO R k hi W σ H2 fun u H3 => rCut R.K x l u H3 Q
  | .tup es, W, σ, H, Q => wEs R k es W σ H fun xs H1 => xs.length ≤ sizeLine ∧ ∀ p, H1 p = none → Q (.ref p) (upd H1 p (.tup xs))
  | .tupS a b, W, σ, H, Q => wE R k a W σ H fun x H1 => wE R k b W σ H1 fun y H2 => ∃ p xs, y = .ref p ∧ (SqT R.K H2 p xs ∨ SqL R.K H2 p xs) ∧ (x :: (xs ++ [])).length ≤ sizeLine ∧ ∀ p, H2 p = none → Q (.ref p) (upd H2 p (.tup (x :: (xs ++ []))))
  | .lst es, W, σ, H, Q => wEs R k es W σ H fun xs H1 => xs.length ≤ sizeLine ∧ ∀ p, H1 p = none → Q (.ref p) (upd H1 p (.lst xs))
  | .dct es, W, σ, H, Q => tDisp (wPs R k es W) σ H Q
  | .dct0, _, σ, H, Q => tDNewK σ H Q ∨ tDNewT σ H Q
  | .call x es, W, σ, H, Q => ∃ f, R.mg x = some (.ref f) ∧ PySem.W.keepIn R.K (.ref f) = true ∧ wEs R k es W σ H fun vs H1 => ∃ sp, CallOk R.toRt k f sp ∧ sp vs H1 Q (WE W σ)
  | .callB b es, W, σ, H, Q => wEs R k es W σ H fun vs H1 => rBi R.K R.xc b vs H1 Q
  | .callL i, W, σ, H, Q => ∃ f G sp, σ[i]? = some (some (.ref f)) ∧ G H ∧ LamOk R.toRt k f G sp ∧ sp [] H Q (WE W σ)
  | .lam b, _, _, H, Q => tabsOk R.T H ∧ ∀ f fz H1, KeepT R.T H H1 → tabsOk R.T H1 → (∀ p ∈ fz, H1 p.1 = some p.2) → (∀ p ∈ fz, fixO p.2 = true) → R.M f fz (fun j σ cz => spLam (fun Ex σ H Q => wE R j b (fun cls d _ H' => Ex cls d H') σ H Q) σ cz) → Q (.ref f) H1
  | .callZ x es, W, σ, H, Q => ∃ g, R.mg x = some (.ref g) ∧ PySem.W.keepIn R.K (.ref g) = true ∧ wEs R k es W σ H fun vs H1 => ∃ sp, CallEnv R.toRt k g sp ∧ ∀ cz : Hp, CzK cz → (∀ a o, cz a = some o → H1 a = none) →
      (∀ f fz φ, R.M f fz φ → ∀ j, LamOk R.toRt (j + 1) f (knows cz fz) (φ j σ cz)) → sp vs (join cz H1) (fun v H2 => (∀ a o, cz a = some o → H2 a = some o) → Q v (less cz H2)) fun _ _ _ => False
  | .meth a m ms es, W, σ, H, Q => wE R k a W σ H fun x H1 =>
      (R.xc = none ∧ ∃ p C dx fs g, x = .ref p ∧ H1 p = some (.ins C dx fs) ∧ Cls R.K C ∧ Meth R.K C m g ∧ fs.lookup m = none ∧
        wEs R k es W σ H1 fun vs H2 => ∃ sp, CallOk R.toRt k g sp ∧ sp (x :: vs) H2 Q (WE W σ)) ∨
      (∃ t, t ∈ ms ∧ tyV R.K (mtT t) x H1 ∧ wEs R k es W σ H1 fun vs H2 => rMt R.K t x vs H2 Q)
  | .comp elt tg it tt own, _, σ, H, Q =>
      tLc (fun σ H S => wI R k it W0 σ H S) (gTg R.K tg) (fun σ H S => wT R k tt W0 σ H S) (fun σ H S => wE R k elt W0 σ H S) own σ H Q ∨
      tLockE (tLc (fun σ H S => wI R k it W0 σ H S) (gTg R.K tg) (fun σ H S => wT R k tt W0 σ H S) (fun σ H S => wE R k elt W0 σ H S) own) σ H Q
def wEs (R : Rx) (k : Nat) : Es → WX → L2.St → Hp → (List V → Hp → Prop) → Prop
  | .nil, _, _, H, Q => Q [] H
  | .cons e es, W, σ, H, Q => wE R k e W σ H fun x H1 => wEs R k es W σ H1 fun xs H2 => Q (x :: xs) H2
def wPs (R : Rx) (k : Nat) : Es → WX → List (TE × TE)
  | .cons a (.cons b r), W => (fun σ H Q => wE R k a W σ H Q, fun σ H Q => wE R k b W σ H Q) :: wPs R k r W
  | _, _ => []
def wO (R : Rx) (k : Nat) : O → WX → L2.St → Hp → (Option Int → Hp → Prop) → Prop
  | .no, _, _, H, Q => Q none H
  | .part e, W, σ, H, Q => wE R k e W σ H fun x H1 => ∃ i, x = .int i ∧ Q (some i) H1
def wT (R : Rx) (k : Nat) : T → WX → L2.St → Hp → (Bool → Hp → Prop) → Prop
  | .yes, _, _, H, Q => Q true H
  | .nt a, W, σ, H, Q => wT R k a W σ H fun c H1 => Q (!c) H1
  | .and2 a b, W, σ, H, Q => wT R k a W σ H fun c H1 => if c = true then wT R k b W σ H1 Q else Q false H1
  | .or2 a b, W, σ, H, Q => wT R k a W σ H fun c H1 => if c = true then Q true H1 else wT R k b W σ H1 Q
  | .cmp e, W, σ, H, Q => wE R k e W σ H fun x H1 => ∃ c, x = .bl c ∧ Q c H1
  | .val e, W, σ, H, Q => wE R k e W σ H fun x H1 => ∃ c, TruV R.K x H1 c ∧ Q c H1
def wI (R : Rx) (k : Nat) : I → WX → L2.St → Hp → (It → Hp → Prop) → Prop
  | .rng1 a, W, σ, H, S => wE R k a W σ H fun x H1 => ∃ j : Int, x = .int j ∧ -(2 ^ 62) ≤ j ∧ j < 2 ^ 62 ∧ S (Itr 0 j.toNat) H1
  | .rng2 a b, W, σ, H, S => wE R k a W σ H fun x H1 => wE R k b W σ H1 fun y H2 => ∃ i j : Int, x = .int i ∧ y = .int j ∧ (-(2 ^ 62) ≤ i ∧ i < 2 ^ 62 ∧ -(2 ^ 62) ≤ j ∧ j < 2 ^ 62) ∧ S (Itr i (j - i).toNat) H2
  | .seq e, W, σ, H, S => wE R k e W σ H fun x H1 => (∃ a, x = .ref a ∧ (∃ xs, SqL R.K H1 a xs) ∧ S (Itl R.K a) H1) ∨ (∃ a, x = .ref a ∧ (∃ xs, SqT R.K H1 a xs) ∧ S (Itt R.K a) H1) ∨
      (∃ d o kvs, x = .ref d ∧ H1 d = some (.frz o (.dK kvs)) ∧ S (Itk d o kvs) H1) ∨ (∃ z, x = .str z ∧ S (Its z) H1)
  | .enum e, W, σ, H, S => wE R k e W σ H fun x H1 => ∃ a xs, x = .ref a ∧ SqL R.K H1 a xs ∧ S (Ite R.K a) H1
  | .zip a b, W, σ, H, S => wE R k a W σ H fun x H1 => wE R k b W σ H1 fun y H2 => ∃ p q xs ys, x = .ref p ∧ y = .ref q ∧ SqL R.K H2 p xs ∧ SqL R.K H2 q ys ∧ S (Itz R.K p q) H2
  | .items e, W, σ, H, S => wE R k e W σ H fun x H1 => ∃ d o kvs, x = .ref d ∧ H1 d = some (.frz o (.dK kvs)) ∧ S (Iti d o kvs) H1
end
/-- what an own exception's class has (one without an __init__ of its own) -/
structure ExcOk (K : PySem.W.Frag) (C : Addr) : Prop where
  ex : PySem.W.excIn K C [.type "ValueError", .type "Exception", .type "BaseException", .type "object"] "ValueError.__new__" = true
  kp : PySem.W.keepIn K (.ref C) = true
  sb : PySem.W.subIn K (.ref C) (.type "BaseException") = some true
  ty : PySem.W.typeIn K (.ref C) = some (.type "type")
/-! ## the reading of statements -/
def rAug (op : Operator) : TIp := match op with
  | .Add => fun x y H Q => (∃ i j, x = .int i ∧ y = .int j ∧ Q (.int (i + j)) H) ∨ ∃ i j, x = .str i ∧ y = .str j ∧ i.length + j.length ≤ sizeLine ∧ Q (.str (i ++ j)) H
  | .Sub => fun x y H Q => ∃ i j, x = .int i ∧ y = .int j ∧ Q (.int (i - j)) H
  | _ => fun _ _ _ _ => False
def wTts (R : Rx) (k : Nat) : Tts → WX → List V → L2.St → Hp → (L2.St → Hp → Prop) → Prop
  | .nil, _, _, σ, H, Q => Q σ H
  | .nm i r, W, v :: vs, σ, H, Q => wTts R k r W vs (σ.set i (some v)) H Q
  | .sb a i r, W, v :: vs, σ, H, Q => wE R k a W σ H fun x H2 => wE R k i W σ H2 fun y H3 => rSetL x y v H3 (fun H4 => wTts R k r W vs σ H4 Q) ∨ ∃ p H4, x = .ref p ∧ DPut H3 p y v H4 ∧ wTts R k r W vs σ H4 Q
  | _, _, _, _, _, _ => False
def rAugF (op : Operator) : V → V → Hp → VK → Prop := match op with
  | .Add => rAdd
  | .Sub => rSub
  | _ => fun _ _ _ _ => False
mutual
def wS (R : Rx) (k : Nat) : S → WX → Ends → L2.St → Hp → Prop
  | .set i e, W, D, σ, H => wE R k e W σ H fun v H1 => D.nx (σ.set i (some v)) H1
  | .setTup ts e, W, D, σ, H => wE R k e W σ H fun v H1 => ∃ a xs, v = .ref a ∧ (SqT R.K H1 a xs ∨ SqL R.K H1 a xs) ∧ xs.length = ts.len ∧ wTts R k ts W xs σ H1 D.nx
  | .par i j a b, W, D, σ, H => wE R k a W σ H fun v H1 => wE R k b W σ H1 fun w H2 => D.nx ((σ.set i (some v)).set j (some w)) H2
  | .setFld a f e, W, D, σ, H => wE R k e W σ H fun y H1 => wE R k a W σ H1 fun x H2 => ∃ p C dx fs, x = .ref p ∧ H2 p = some (.ins C dx fs) ∧ Cls R.K C ∧ NoAttr R.K C f ∧ fs.length < 1000 ∧ D.nx σ (upd H2 p (.ins C dx (putF f y fs)))
  | .setSub a i e, W, D, σ, H => wE R k e W σ H fun v H1 => wE R k a W σ H1 fun x H2 => wE R k i W σ H2 fun y H3 => rSetL x y v H3 (D.nx σ) ∨ ∃ p H4, x = .ref p ∧ DPut H3 p y v H4 ∧ D.nx σ H4
  | .aug i op e, W, D, σ, H => ∃ x, σ[i]? = some (some x) ∧ wE R k e W σ H fun y H1 => rAug op x y H1 fun z H2 => D.nx (σ.set i (some z)) H2
  | .augFld a f op e, W, D, σ, H => sFldAug R.K (fun σ H S => wE R k a W σ H S) (fun σ H S => wE R k e W σ H S) (rAugF op) f D σ H
  | .ret e, W, D, σ, H => wE R k e W σ H D.rt
  | .retN, _, D, _, H => D.rt .non H
  | .exp e, W, D, σ, H => wE R k e W σ H fun _ H1 => D.nx σ H1
  | .doc, _, D, σ, H => D.nx σ H
  | .pass, _, D, σ, H => D.nx σ H
  | .brk, _, D, σ, H => D.bk σ H
  | .cont, _, D, σ, H => D.ct σ H
  | .ifs t a b, W, D, σ, H => wT R k t W σ H fun c H1 => if c = true then wSs R k a W D σ H1 else wSs R k b W D σ H1
  | .whl t a, W, D, σ, H => tWhile (fun σ H S => wT R k t W σ H S) (fun D σ H => wSs R k a W D σ H) D σ H
  | .fors tg it a, W, D, σ, H =>
      tFor (fun σ H S => wI R k it W σ H S) (gTg R.K tg) (fun D σ H => wSs R k a W D σ H) D σ H ∨
      tLock (tFor (fun σ H S => wI R k it W0 σ H S) (gTg R.K tg) (fun D σ H => wSs R k a W0 D σ H)) D σ H
  | .tryAs x i a b, W, D, σ, H => ∃ c, (R.mg x = some c ∨ (R.mg x = none ∧ bootBuiltins x = some c ∧ x ≠ "__name__")) ∧ wSs R k a (wAs R.K c i (fun p cls d D' σ' H' => wSs { R with xc := some (p, cls, d) } k b W0 D' σ' H') W D) D σ H
  | .tryOn x a b, W, D, σ, H => ∃ c, (R.mg x = some c ∨ (R.mg x = none ∧ bootBuiltins x = some c ∧ x ≠ "__name__")) ∧ wSs R k a (wOnly R.K c (fun p cls d D' σ' H' => wSs { R with xc := some (p, cls, d) } k b W0 D' σ' H') W D) D σ H
  | .unpS i j e, W, D, σ, H => wE R k e W σ H fun v H1 => ∃ p x rest, v = .ref p ∧ SqL R.K H1 p (x :: rest) ∧ ∀ q, H1 q = none → D.nx ((σ.set i (some x)).set j (some (.ref q))) (upd H1 q (.lst rest))
  | .dead, _, _, _, _ => False
  | .raise x, W, D, σ, H => ∃ C, R.mg x = some (.ref C) ∧ ExcOk R.K C ∧ W (.ref C) none σ H
def wSs (R : Rx) (k : Nat) : Ss → WX → Ends → L2.St → Hp → Prop
  | .nil, _, D, σ, H => D.nx σ H
  | .cons s r, W, D, σ, H => wS R k s W { D with nx := fun σ' H' => wSs R k r W D σ' H' } σ H
end
example (R : Rx) (W : WX) (σ : L2.St) (H : Hp) (Q : VK) : wE R 3 (.int 3) W σ H Q = Q (.int 3) H := rfl
example (R : Rx) (W : WX) (σ : L2.St) (H : Hp) (D : Ends) : wSs R 3 (.cons (.ret (.int 3)) .nil) W D σ H = D.rt (.int 3) H := rfl
end Zw

set_option Elab.async false
set_option linter.all false
set_option maxRecDepth 100000
set_option maxHeartbeats 4000000
namespace Zw
open PySem PySem.Spec PyProof.Rows L2

/-! ## from the text to the small text -/
def ixOf : List Str → Str → Option Nat
  | [], _ => none
  | y :: r, x => if y = x then some 0 else (ixOf r x).map (· + 1)
theorem ixOf_get : ∀ {N : List Str} {x : Str} {i : Nat}, ixOf N x = some i → N[i]? = some x
  | [], _, _, h => by cases h
  | y :: r, x, i, h => by
    unfold ixOf at h
    split at h
    · cases h; simp_all
    · cases e : ixOf r x with
      | none => rw [e] at h; cases h
      | some j =>
        rw [e] at h; cases h
        simpa using ixOf_get e
def visB (sc : Scope) (x : Str) : Bool := match sc.names.lookup x with | some .local => true | some .cell => true | some .free => true | _ => false
def glB (sc : Scope) (x : Str) : Bool := match sc.names.lookup x with | some .globalImplicit => true | _ => false
def okName (x : Str) : Bool := !(x == ("__debug__" : Str)) && !(x == ("__classdict__" : Str)) && !(x == ("__name__" : Str))
theorem visB_vis {sc : Scope} {x : Str} (h : visB sc x = true) : Vis sc x := by
  unfold visB at h
  split at h <;> first | exact .inl (by assumption) | exact .inr (.inl (by assumption)) | exact .inr (.inr (by assumption)) | cases h
theorem glB_gl {sc : Scope} {x : Str} (h : glB sc x = true) : sc.names.lookup x = some .globalImplicit := by
  unfold glB at h
  split at h <;> first | assumption | cases h
theorem okName_d {x : Str} (h : okName x = true) : (x == ("__debug__" : Str)) = false ∧ (x == ("__classdict__" : Str)) = false ∧ x ≠ ("__name__" : Str) := by
  unfold okName at h
  simp only [Bool.and_eq_true, Bool.not_eq_true'] at h
  refine ⟨h.1.1, h.1.2, fun e => ?_⟩
  rw [e] at h
  simp at h
def biAll : List Bi := [.len, .isinstance, .int, .bool, .str, .list, .tuple, .sorted, .min, .max, .abs, .sum, .any, .all]
def biName : Bi → Str
  | .len => "len" | .isinstance => "isinstance" | .int => "int" | .bool => "bool" | .str => "str" | .list => "list" | .tuple => "tuple"
  | .sorted => "sorted" | .min => "min" | .max => "max" | .abs => "abs" | .sum => "sum" | .any => "any" | .all => "all"
def biOf (x : Str) : Option Bi := biAll.find? fun b => decide (biName b = x)
theorem biOf_name {x : Str} {b : Bi} (h : biOf x = some b) : biName b = x := by
  have := List.find?_some h
  simpa using this
def clsNames : List Str := ["int", "bool", "str", "list", "tuple", "dict", "ValueError"]
def mtAll : List Mt := [.append, .pop, .popAt, .extend, .clear, .reverse, .index, .count, .insert, .dget1, .dget2, .dpop1, .dpop2, .split, .join, .isdigit, .update]
def mtName : Mt → Str
  | .append => "append" | .pop => "pop" | .popAt => "pop" | .extend => "extend" | .clear => "clear" | .reverse => "reverse" | .index => "index" | .count => "count" | .insert => "insert"
  | .dget1 => "get" | .dget2 => "get" | .dpop1 => "pop" | .dpop2 => "pop" | .split => "split" | .join => "join" | .isdigit => "isdigit" | .update => "update"
def mtsOf (m : Str) : List Mt := mtAll.filter fun t => decide (mtName t = m)
theorem mtsOf_name {m : Str} {t : Mt} (h : t ∈ mtsOf m) : mtName t = m := by
  have := (List.mem_filter.mp h).2
  simpa using this

def nsB : Expr → Bool | .Starred .. => false | _ => true
def callB : Expr → Bool | .Call (.Name _ _) [] [] _ => true | _ => false
def compB : Expr → Bool | .ListComp .. => true | .SetComp .. => true | .DictComp .. => true | _ => false
def slB : Expr → Bool | .Slice .. => true | _ => false
def setB : Expr → Bool | .Set .. => true | _ => false
theorem starEach_ns {e : Expr} {es : List Expr} {env : Env} (h : nsB e = true) : starEach (e :: es) env = (false, eval e env) :: starEach es env := by
  cases e <;> first | rfl | cases h
theorem base_ns {e : Expr} {f : Str} {env : Env} (h : callB e = false) : attributeBase e f env (eval e env) = eval e env := by
  cases e
  case Call func args kws pos => cases func <;> first | rfl | (cases args <;> first | rfl | (cases kws <;> first | rfl | cases h))
  all_goals rfl
theorem swaps_ns {e : Expr} {t : Option Expr} {l : Nat} {env : Env} (h : compB e = false) : swapsWith e t l env = pure false := by
  cases e <;> first | rfl | cases h
theorem plain_ns {e : Expr} (h : slB e = false) : PlainIx e := fun o i => by
  cases e <;> first | rfl | cases h
theorem fold_ns {e : Expr} {env : Env} (h : setB e = false) (x : Value) : foldedSetIterable e env x = pure x := by
  cases e <;> first | rfl | cases h

def cEs (f : Expr → Option E) : List Expr → Option Es
  | [] => some .nil
  | e :: r => match nsB e, f e, cEs f r with
    | true, some m, some ms => some (.cons m ms)
    | _, _, _ => none
def cPs (f : Expr → Option E) : List (Option Expr) → List Expr → Option Es
  | [], [] => some .nil
  | some a :: r, b :: q => match f a, f b, cPs f r q with
    | some m, some n, some ms => some (.cons m (.cons n ms))
    | _, _, _ => none
  | _, _ => none
def cO (f : Expr → Option E) : Option Expr → Option O
  | none => some .no
  | some e => (f e).map .part
def nmIx (N : List Str) (sc : Scope) (cellOk : Bool) : Expr → Option Nat
  | .Name x _ => match sc.names.lookup x with
    | some .local => ixOf N x
    | some .cell => if cellOk then ixOf N x else none
    | _ => none
  | _ => none
def cNms (f : Expr → Option Nat) : List Expr → Option (List Nat)
  | [] => some []
  | e :: r => match f e, cNms f r with
    | some i, some is => some (i :: is)
    | _, _ => none
/-- a target of names: sc0 the block's own scope -/
def cTg (N : List Str) (sc0 : Scope) (cellOk : Bool) (tg : Expr) : Option Tg := match tg with
  | .Name _ _ => (nmIx N sc0 cellOk tg).map .nm
  | .Tuple es _ _ => (cNms (nmIx N sc0 cellOk) es).map .tp
  | _ => none
def tgNames : Expr → List Str
  | .Name x _ => [x]
  | .Tuple es _ _ => es.filterMap fun | .Name x _ => some x | _ => none
  | _ => []
def ownOf (N : List Str) (xs : List Str) : List (Str × Nat) := xs.filterMap fun x => (ixOf N x).map fun i => (x, i)
def tupB : Expr → Bool | .Tuple .. => true | _ => false
def cI (f : Expr → Option E) (sc : Scope) (tg it : Expr) : Option I := match it with
  | .Call (.Name x _) args [] _ =>
    if glB sc x then
      (if x = "range" then (match args with
        | [a] => if nsB a then (f a).map .rng1 else none
        | [a, b] => if nsB a && nsB b then (match f a, f b with | some m, some n => some (.rng2 m n) | _, _ => none) else none
        | _ => none)
      else if x = "enumerate" then (match args with
        | [a] => if nsB a && tupB tg then (f a).map .enum else none
        | _ => none)
      else if x = "zip" then (match args with
        | [a, b] => if nsB a && nsB b && tupB tg then (match f a, f b with | some m, some n => some (.zip m n) | _, _ => none) else none
        | _ => none)
      else if x = "reversed" then none
      else (f it).map .seq)
    else (f it).map .seq
  | .Call (.Attribute o m apos) [] [] cpos => if m = "items" then (if tupB tg && !callB o && (apos.endLine == cpos.line) then (f o).map .items else none) else (if m = "keys" || m = "values" then none else (f it).map .seq)
  | .GeneratorExp .. => none
  | e => if setB e then none else (f it).map .seq
/-- where a text stands: in a def, in a def that makes lambdas, in an except suite -/
inductive Md where
  | no | lam | qt
  deriving DecidableEq
def Md.l : Md → Bool | .lam => true | _ => false
def Md.c : Md → Bool | .qt => false | _ => true
def quB : Bi → Bool | .min | .max | .sum | .any | .all => false | _ => true
/-- the defs to which lambdas are handed -/
def zNames : List Str := ["_law_told", "_law_all", "_law_try"]
/-- in, not in a thing of the module -/
def glN (sc : Scope) : Expr → Option Str
  | .Name x _ => if okName x && glB sc x && !decide (x ∈ clsNames) then some x else none
  | _ => none
theorem glN_eq {sc : Scope} {e : Expr} {x : Str} (h : glN sc e = some x) : ∃ p, e = .Name x p ∧ okName x = true ∧ glB sc x = true := by
  unfold glN at h
  split at h
  · split at h
    · rename_i hc
      simp only [Bool.and_eq_true] at hc
      cases h
      exact ⟨_, rfl, hc.1.1, hc.1.2⟩
    · cases h
  · cases h
def inOp : CmpOp → Option Bool
  | .In => some false
  | .NotIn => some true
  | _ => none
theorem inOp_eq {op : CmpOp} {ng : Bool} (h : inOp op = some ng) : op = if ng = true then .NotIn else .In := by
  cases op <;> cases h <;> rfl
mutual
def cE (N : List Str) : Nat → Md → Scope → Expr → Option E
  | 0, _, _, _ => none
  | n + 1, tp, sc, e => match e with
    | .Name x _ => if okName x then (if visB sc x then (ixOf N x).map .var else if glB sc x then (if x ∈ clsNames then some (.bltn x) else some (.glob x)) else none) else none
    | .Constant c _ _ => (match c with | .int i => some (.int i) | .str z => some (.str z) | .bool b => some (.bl b) | .none => some .non | _ => none)
    | .BinOp a op b _ => (match cE N n tp sc a, cE N n tp sc b with | some x, some y => some (.bin op x y) | _, _ => none)
    | .UnaryOp op a _ => (match op with | .USub => (cE N n tp sc a).map .neg | .Not => (cE N n tp sc a).map .nt | _ => none)
    | .BoolOp op vs p => (match vs with
      | [] => none
      | [a] => cE N n tp sc a
      | a :: b :: r => (match cE N n tp sc a, cE N n tp sc (.BoolOp op (b :: r) p) with
        | some x, some y => some (match op with | .And => .and2 x y | .Or => .or2 x y)
        | _, _ => none))
    | .Compare a ops cs _ => (match ops, cs with
      | [op], [b] => if behindInMarks op b then none else (match inOp op, glN sc b with
        | some ng, some x => (cE N n tp sc a).map (.inG ng · x)
        | _, _ => (match cE N n tp sc a, cE N n tp sc b with | some x, some y => some (.cmp op x y) | _, _ => none))
      | [o1, o2], [b, c] => if setB b || setB c then none else (match cE N n tp sc a, cE N n tp sc b, cE N n tp sc c with | some x, some y, some z => some (.chain o1 o2 x y z) | _, _, _ => none)
      | _, _ => none)
    | .IfExp t a b _ => (match cT N n tp sc t, cE N n tp sc a, cE N n tp sc b with | some x, some y, some z => some (.ife x y z) | _, _, _ => none)
    | .Attribute a f _ => if callB a then none else (cE N n tp sc a).map (.fld · f)
    | .Subscript a i _ => (match i with
      | .Slice lo hi none _ => (match cE N n tp sc a, cO (cE N n tp sc) lo, cO (cE N n tp sc) hi with | some x, some l, some h => some (.cut x l h) | _, _, _ => none)
      | _ => if slB i then none else (match glN sc a with
        | some x => (cE N n tp sc i).map (.subG x)
        | none => (match cE N n tp sc a, cE N n tp sc i with | some x, some y => some (.sub x y) | _, _ => none)))
    | .Tuple es _ _ => (match es with
      | [a, .Starred b _] => if nsB a then (match cE N n tp sc a, cE N n tp sc b with | some x, some y => some (.tupS x y) | _, _ => none) else none
      | _ => (cEs (cE N n tp sc) es).map .tup)
    | .List es _ => (cEs (cE N n tp sc) es).map .lst
    | .Dict ks vs _ => if ks.isEmpty && vs.isEmpty then some .dct0 else if ks.isEmpty || !decide (ks.length = vs.length) || !decide (ks.length ≤ 15) then none else (cPs (cE N n tp sc) ks vs).map .dct
    | .Call f args kws pos => (match f, kws with
      | .Name x _, [] => if okName x then (if visB sc x then (if args.isEmpty && tp.c then (ixOf N x).map .callL else none) else if glB sc x then (match cEs (cE N n tp sc) args with
          | some es => (match biOf x with
            | some b => if args.isEmpty then none else if tp.c || quB b then some (.callB b es) else none
            | none => if tp.l && decide (x ∈ zNames) then (if args.isEmpty then none else some (.callZ x es)) else if tp.c then some (.call x es) else none)
          | none => none) else none) else none
      | .Attribute o m apos, [] => if callB o || !(apos.endLine == pos.line) || !decide (args.length < 30) then none else (match cE N n tp sc o, cEs (cE N n tp sc) args with
          | some a, some es => some (.meth a m (mtsOf m) es)
          | _, _ => none)
      | _, _ => none)
    | .Lambda params body scope _ => if tp.l then (match lparB params with
      | some l => if lamB N sc scope l then (cE N n .no scope body).map .lam else none
      | none => none) else none
    | .ListComp elt gens scope _ => (match gens with
      | [⟨tg, iter, ifs, asy⟩] =>
        if decide (asy = 0) && blkC N sc scope (ownOf N (tgNames tg)) && !setB iter && tp.c then
          (match cI (cE N n tp sc) sc tg iter, cTg N scope true tg, (match ifs with | [] => some T.yes | [c] => cT N n .no (relS scope sc) c | _ => none), cE N n .no (relS scope sc) elt with
            | some it, some g, some tt, some x => some (.comp x g it tt ((ownOf N (tgNames tg)).map (·.2)))
            | _, _, _, _ => none) else none
      | _ => none)
    | _ => none
def cT (N : List Str) : Nat → Md → Scope → Expr → Option T
  | 0, _, _, _ => none
  | n + 1, tp, sc, e => match e with
    | .UnaryOp .Not a _ => (cT N n tp sc a).map .nt
    | .BoolOp op vs p => (match vs with
      | [] => none
      | [a] => cT N n tp sc a
      | a :: b :: r => (match cT N n tp sc a, cT N n tp sc (.BoolOp op (b :: r) p) with
        | some x, some y => some (match op with | .And => .and2 x y | .Or => .or2 x y)
        | _, _ => none))
    | .Compare a ops cs _ => (match ops, cs with
      | [op], [b] => if behindInMarks op b then none else (match inOp op, glN sc b with
        | some ng, some x => (cE N n tp sc a).map fun m => .cmp (.inG ng m x)
        | _, _ => (match cE N n tp sc a, cE N n tp sc b with | some x, some y => some (.cmp (.cmp op x y)) | _, _ => none))
      | [o1, o2], [b, c] => if setB b || setB c then none else (match cE N n tp sc a, cE N n tp sc b, cE N n tp sc c with | some x, some y, some z => some (.cmp (.chain o1 o2 x y z)) | _, _, _ => none)
      | _, _ => none)
    | .IfExp .. => none
    | _ => (cE N n tp sc e).map .val
end

end Zw

set_option Elab.async false
set_option linter.all false
set_option maxRecDepth 100000
set_option maxHeartbeats 4000000
namespace Zw
open PySem PySem.Spec PyProof.Rows L2

/-- the built-in names that a program must have left alone -/
def bltNames : List Str := ["len", "isinstance", "int", "bool", "str", "list", "tuple", "sorted", "min", "max", "abs", "sum", "any", "all", "dict", "range", "enumerate", "zip", "ValueError"]
theorem biName_mem (b : Bi) : biName b ∈ bltNames := by cases b <;> decide +kernel
def rx (X : Cx) (ta : List (Addr × Str)) (mm : MT) (xc : XC) : Rx := ⟨rtOf X, ta, mm, xc⟩
/-- the lambdas that X's frame made -/
def Mof (X : Cx) : MT := fun f fz φ => ∀ (σ : L2.St) (cz : Hp), CzOk X σ cz → ∀ j, LamOk (rtOf X) (j + 1) f (knows cz fz) (φ j σ cz)
structure Gd (ta : List (Addr × Str)) (mm : MT) (xc : XC) (tp : Md) (k : Nat) (sc : Scope) (N : List Str) (W : WX) (X : Cx) : Prop where
  N : X.N = N
  nd : X.N.Nodup
  sc : X.env.scope = sc
  room : tp.c = true → Room k X.A
  u65 : X.A.units + 65 < cLine
  calm : tp.c = true → X.calm = true
  tk : Takes X W
  own : PassesOwn (model X.prog X.w) X.A X.env X.xe
  blt : ∀ x ∈ bltNames, X.mg x = none
  exn : tp.c = true → xc = none
  exq : tp.c = false → xc ≠ none
  exi : tp.c = false → CallR X (.builtin "isinstance") (rIsH X.K xc)
  lam : tp.l = true → (∀ x, X.fn x = true) ∧ mm = Mof X ∧ ∃ c P, LamX.TabB X.base X.mg c P ∧ X.env.code = .ref c ∧ (P, X.env.qual ++ "<lambda>") ∈ ta ∧ ∀ p ∈ ta, p.1 = P → p.2 = X.env.qual ++ "<lambda>"

theorem Gd.ex {ta : List (Addr × Str)} {mm : MT} {xc : XC} {tp : Md} {k : Nat} {sc : Scope} {N : List Str} {W : WX} {X : Cx} (g : Gd ta mm xc tp k sc N W X) : CallR X (.builtin "isinstance") (rIsH X.K xc) := by
  cases h : tp.c with
  | true =>
    obtain rfl := g.exn h
    intro pins s σ H xs us Q I r q
    obtain ⟨a, C, z, _⟩ := q
    cases z
  | false => exact g.exi h

theorem Gd.c_of {ta : List (Addr × Str)} {mm : MT} {xc : XC} {tp : Md} {k : Nat} {sc : Scope} {N : List Str} {W : WX} {X : Cx} (g : Gd ta mm xc tp k sc N W X) (h : xc = none) : tp.c = true := by
  cases q : tp.c with
  | true => rfl
  | false => exact absurd h (g.exq q)

section
variable {X : Cx}
theorem PEi {e : Expr} {t t' : TE} (h : PE X e t) (i : ∀ σ H Q, t' σ H Q → t σ H Q) : PE X e t' := ⟨fun pins s σ H Q I q => h.run pins s σ H Q I (i σ H Q q)⟩
theorem PTi {e : Expr} {t t' : TT} (h : PT X e t) (i : ∀ σ H Q, t' σ H Q → t σ H Q) : PT X e t' := ⟨fun pins s σ H Q I q => h.run pins s σ H Q I (i σ H Q q)⟩
theorem PSi {e : Stmt} {t t' : TS} (h : PS X e t) (i : ∀ D σ H, t' D σ H → t D σ H) : PS X e t' := ⟨fun pins s σ H D I q => h.run pins s σ H D I (i D σ H q)⟩
theorem ORi {f : Value → Value → Sem Value} {r r' : R2} (h : OpR X f r) (i : ∀ x y H Q, r' x y H Q → r x y H Q) : OpR X f r' := fun pins s σ H x y v u Q I rx ry q => h pins s σ H x y v u Q I rx ry (i _ _ _ _ q)
theorem ORn {f : Value → Value → Sem Value} : OpR X f (fun _ _ _ _ => False) := fun _ _ _ _ _ _ _ _ _ _ _ _ q => q.elim
theorem MtRn {id : String} : MtR X id (fun _ _ _ _ => False) := fun _ _ _ _ _ _ _ _ _ _ _ _ q => q.elim

theorem o_bin (op : Operator) : OpR X (binaryOp op) (rBin X.K op) := by
  cases op
  case Add => exact op_add.or (op_add_str.or (op_cat.or op_catA))
  case Sub => exact op_sub
  case Mult => exact op_mul.or (op_mulW.or op_rep)
  case FloorDiv => exact op_fdivW
  case Mod => exact op_mod
  case Pow => exact op_pow
  all_goals exact ORn
theorem o_din (hu : X.A.units + 65 < cLine) : OpR X (compareOp .In) (rDIn false) := by
  intro pins s σ H x y v u Q I rx ry q
  obtain ⟨a, o, rfl, g, q⟩ := q
  obtain rfl : u = Value.ref a := ry
  exact d_in (by omega) I g rx fun s' I' => ⟨.bl o.isSome, H, I', rfl, q⟩
theorem o_dnin (hu : X.A.units + 65 < cLine) : OpR X (compareOp .NotIn) (rDIn true) := by
  intro pins s σ H x y v u Q I rx ry q
  obtain ⟨a, o, rfl, g, q⟩ := q
  obtain rfl : u = Value.ref a := ry
  exact d_notIn (by omega) I g rx fun s' I' => ⟨.bl (!o.isSome), H, I', rfl, q⟩
theorem o_cmp (op : CmpOp) (hu : X.A.units + 65 < cLine) : OpR X (compareOp op) (rCmp X.K op) := by
  cases op
  case Eq => exact op_eq.or ((op_eqD (by omega)).or (op_eqV (by omega)))
  case NotEq => exact op_ne.or (op_neD (by omega))
  case Lt => exact op_lt
  case LtE => exact op_le
  case Gt => exact op_gt
  case GtE => exact op_ge
  case Is => exact op_isN
  case IsNot => exact op_notN
  case In => exact op_in_seq.or ((op_inD hu).or ((o_din hu).or op_in_sign))
  case NotIn => exact op_notIn_seq.or ((op_notInD hu).or (o_dnin hu))
theorem o_inK (ng : Bool) : OpR X (compareOp (if ng = true then .NotIn else .In)) (rInK X.K X.w ng) := by
  intro pins s σ H x y v u Q I rx ry q
  obtain ⟨p, z, b, rfl, rfl, ⟨es, n, r, hl, hk, low, e, rfl⟩, q⟩ := q
  obtain rfl : u = Value.ref p := ry
  obtain ⟨t, rfl⟩ := rx
  have hm := PySem.W.mapOf_K (prog := X.prog) (w := X.w) I.kIn hl hk
  have fk := PySem.W.find_K hl e
  cases ng with
  | false =>
    refine wpAny_in_of (strKind_is X.prog X.w z t) low hm ?_
    rw [fk]
    exact ⟨.bl r.isSome, H, I.tok _, rfl, q⟩
  | true =>
    refine wpAny_notIn_of (strKind_is X.prog X.w z t) low hm ?_
    rw [fk]
    exact ⟨.bl (!r.isSome), H, I.tok _, rfl, q⟩
theorem x_dict (hu : X.A.units + 65 < cLine) : IxR X rIxD := by
  intro value slice pins s σ H x y v u Q I rx ry h hs
  obtain ⟨a, z, rfl, g, q⟩ := h
  obtain rfl : v = Value.ref a := rx
  exact tail_any (dict_typeIs I g) PySem.F.slot_dict_getitem.lookup (d_getItem (by omega) I g ry fun w' s' I' r' => ⟨z, H, I', r', q⟩) hs
theorem x_sub (hu : X.A.units + 65 < cLine) : IxR X (rSubs X.K) := ix_seq.or (x_dict hu)
theorem x_cut : SlR X (rCut X.K) := sl_list.or (sl_tupA.or sl_str)
def biV : Bi → Value
  | .len => .builtin "len" | .isinstance => .builtin "isinstance" | .int => .type "int" | .bool => .type "bool" | .str => .type "str" | .list => .type "list" | .tuple => .type "tuple"
  | .sorted => .builtin "sorted" | .min => .builtin "min" | .max => .builtin "max" | .abs => .builtin "abs" | .sum => .builtin "sum" | .any => .builtin "any" | .all => .builtin "all"
theorem c_bi {xc : XC} (b : Bi) (hc : quB b = true ∨ X.calm = true) (hx : CallR X (.builtin "isinstance") (rIsH X.K xc)) : CallR X (biV b) (rBi X.K xc b) := by
  cases b
  case len => exact call_len
  case isinstance => exact (call_isi.or call_isiT).or hx
  case int => exact call_int1.or call_int_str
  case bool => exact call_bool1
  case str => exact call_str_int.or SkE.call_str_str
  case list => exact call_list_of
  case tuple => exact call_tuple_of
  case sorted => exact cr_sorted
  case min => exact call_min2 (hc.resolve_left (fun z => by cases z))
  case max => exact call_max2 (hc.resolve_left (fun z => by cases z))
  case abs => exact call_abs
  case sum => exact cr_sum (hc.resolve_left (fun z => by cases z))
  case any => exact cr_any (hc.resolve_left (fun z => by cases z))
  case all => exact cr_all (hc.resolve_left (fun z => by cases z))
theorem b_bi (b : Bi) : bootBuiltins (biName b) = some (biV b) ∧ ((∃ i, biV b = .builtin i) ∨ ∃ i, biV b = .type i) ∧ biName b ≠ "__name__" ∧ (biName b == ("__debug__" : Str)) = false := by
  cases b <;> refine ⟨by decide +kernel, ?_, by decide +kernel, by decide +kernel⟩ <;> first | exact .inl ⟨_, rfl⟩ | exact .inr ⟨_, rfl⟩
end
end Zw

set_option Elab.async false
set_option linter.all false
set_option maxRecDepth 100000
set_option maxHeartbeats 4000000
namespace Zw
open PySem PySem.Spec PyProof.Rows L2
section
variable {X : Cx}
theorem MtRi {id : String} {r r' : V → List V → Hp → VK → Prop} (h : MtR X id r) (i : ∀ x vs H Q, r' x vs H Q → r x vs H Q) : MtR X id r' := fun pins s σ H x xs v us Q I rx rs q => h pins s σ H x xs v us Q I rx rs (i _ _ _ _ q)
theorem m_dget1 (hu : X.A.units + 65 < cLine) : MtR X "dict.get" (rMt X.K .dget1) := by
  intro pins s σ H x xs v us Q I rx rs q
  obtain ⟨a, y, o, rfl, rfl, g, q⟩ := q
  obtain rfl : v = Value.ref a := rx
  obtain ⟨u, rfl, ru⟩ := Vals.one rs
  exact d_get1 (by omega) I g ru fun w' s' I' r' => ⟨_, H, I', r', q⟩
theorem m_dget2 (hu : X.A.units + 65 < cLine) : MtR X "dict.get" (rMt X.K .dget2) := by
  intro pins s σ H x xs v us Q I rx rs q
  obtain ⟨a, y, d, o, rfl, rfl, g, q⟩ := q
  obtain rfl : v = Value.ref a := rx
  obtain ⟨u, u2, rfl, ru, ru2⟩ := Vals.two rs
  exact d_get2 (by omega) I g ru ru2 fun w' s' I' r' => ⟨_, H, I', r', q⟩
theorem m_dpop1 : MtR X "dict.pop" (rMt X.K .dpop1) := by
  intro pins s σ H x xs v us Q I rx rs q
  obtain ⟨a, kvs, k, z, rfl, rfl, e, l, q⟩ := q
  obtain rfl : v = Value.ref a := rx
  obtain ⟨u, rfl, ru⟩ := Vals.one rs
  exact d_pop I e ru l (.inl rfl) fun w' s' I' r' => ⟨_, _, I', r', q⟩
theorem m_dpop2 : MtR X "dict.pop" (rMt X.K .dpop2) := by
  intro pins s σ H x xs v us Q I rx rs q
  obtain ⟨a, kvs, k, d, rfl, rfl, e, q⟩ := q
  obtain rfl : v = Value.ref a := rx
  obtain ⟨u, u2, rfl, ru, ru2⟩ := Vals.two rs
  rcases q with ⟨z, l, q⟩ | ⟨l, q⟩
  · exact d_pop I e ru l (.inr ⟨_, rfl⟩) fun w' s' I' r' => ⟨_, _, I', r', q⟩
  · exact d_popD I e ru l fun s' I' => ⟨_, _, I', ru2, q⟩
/-- what the library knows of a built-in value's method -/
theorem count_eqU {y : V} : ∀ {ys : List V} {its : List Value}, Vals ys its → ys.all flatV = true → its.countP (eqU y) = ys.countP fun z => eqV z y
  | _, _, .nil, _ => rfl
  | z :: _, _, .cons r t, f => by
    obtain ⟨f1, f2⟩ := Bool.and_eq_true_iff.mp f
    rw [List.countP_cons, List.countP_cons, count_eqU t f2, eqU_of r f1] <;> rfl
theorem m_count : MtR X "list.count" (rMt X.K .count) := by
  intro pins s σ H x xs v us Q I rx rxs h
  obtain ⟨a, ys, y, rfl, rfl, hs, fy, fys, q⟩ := h
  cases rx
  cases rxs with
  | cons ry rt =>
    rename_i uy ut
    cases rt
    obtain ⟨its, rv, ⟨⟨cls, dd, data, sl⟩, n, ho, hc, hdn, hd⟩, hlen⟩ := I.list hs
    simp only at hc hd
    subst hc hd
    refine call_meets PySem.F.slot_list_count ⟨_, ho, rfl⟩ PySem.F.entry_list_count (PySem.F.args_list_count_2 _ _)
      (SeqAt.list_countAt a its.toArray n dd sl uy (eqU y)) ⟨ho, fun u' hu' => mem_eqAt ry fy rv fys u' (by simpa using hu'), ?_⟩
    have ec : its.toArray.toList.countP (eqU y) = ys.countP fun z => eqV z y := count_eqU rv fys
    refine ⟨.int (ys.countP fun z => eqV z y : Nat), H, I.tok _, ⟨s.toks, ?_⟩, q⟩
    show Value.int ((its.toArray.toList.countP (eqU y) : Nat) : Int) s.toks = _
    rw [ec]
theorem m_all (hu : X.A.units + 65 < cLine) (t : Mt) : ∃ id : String, PlainAttrs (mtT t) ∧ Slot (mtT t) (mtName t) id ∧ typeOf (.builtin id) = pure (.type "method_descriptor") ∧ MtR X id (rMt X.K t) := by
  cases t
  case append => exact ⟨_, PySem.F.plainAttrs_list, PySem.F.slot_list_append, PySem.F.type_list_append, mt_append⟩
  case pop => exact ⟨_, PySem.F.plainAttrs_list, PySem.F.slot_list_pop, PySem.F.type_list_pop, mt_pop⟩
  case popAt => exact ⟨_, PySem.F.plainAttrs_list, PySem.F.slot_list_pop, PySem.F.type_list_pop, mt_popAt⟩
  case extend => exact ⟨_, PySem.F.plainAttrs_list, PySem.F.slot_list_extend, PySem.F.type_list_extend, mt_extend⟩
  case clear => exact ⟨_, PySem.F.plainAttrs_list, PySem.F.slot_list_clear, PySem.F.type_list_clear, mt_clear⟩
  case reverse => exact ⟨_, PySem.F.plainAttrs_list, PySem.F.slot_list_reverse, PySem.F.type_list_reverse, mt_reverse⟩
  case index => exact ⟨_, PySem.F.plainAttrs_list, PySem.F.slot_list_index, PySem.F.type_list_index, mt_index.or (mt_indexD hu)⟩
  case count => exact ⟨_, PySem.F.plainAttrs_list, PySem.F.slot_list_count, PySem.F.type_list_count, m_count⟩
  case insert => exact ⟨_, PySem.F.plainAttrs_list, PySem.F.slot_list_insert, PySem.F.type_list_insert, mt_insert⟩
  case dget1 => exact ⟨_, PySem.F.plainAttrs_dict, PySem.F.slot_dict_get, PySem.F.type_dict_get, m_dget1 hu⟩
  case dget2 => exact ⟨_, PySem.F.plainAttrs_dict, PySem.F.slot_dict_get, PySem.F.type_dict_get, m_dget2 hu⟩
  case dpop1 => exact ⟨_, PySem.F.plainAttrs_dict, PySem.F.slot_dict_pop, PySem.F.type_dict_pop, m_dpop1⟩
  case dpop2 => exact ⟨_, PySem.F.plainAttrs_dict, PySem.F.slot_dict_pop, PySem.F.type_dict_pop, m_dpop2⟩
  case split => exact ⟨_, PySem.F.plainAttrs_str, PySem.F.slot_str_split, PySem.F.type_str_split, mt_split⟩
  case join => exact ⟨_, PySem.F.plainAttrs_str, PySem.F.slot_str_join, PySem.F.type_str_join, mt_join⟩
  case isdigit => exact ⟨_, PySem.F.plainAttrs_str, PySem.F.slot_str_isdigit, PySem.F.type_str_isdigit, mt_isdigit⟩
  case update => exact ⟨_, PySem.F.plainAttrs_dict, PySem.F.slot_dict_update, PySem.F.type_dict_update, m_update⟩

/-- a method's call, whatever the receiver is -/
theorem meth_at {prog : Program} {w : World} {A : Around} {E : Value → Shared → Prop} {s : Shared} {env : Env} {o : Expr} {name : Str} {apos pos : Pos} {args : List Expr} {Q : Value → Shared → Prop}
    (hbase : attributeBase o name env (eval o env) = eval o env) (hfew : ((backTo pos (starEach args env)).all (fun x => !x.1) && (backToKw pos (keywordEach [] env)).all (fun x => x.1.isSome)
      && decide (args.length + ([] : List Keyword).length + (if ([] : List Keyword).isEmpty then 0 else 1) < 30)) = true) (hline : (apos.endLine == pos.line) = true)
    (h : wpAny (model prog w) A (eval o env) (fun ov s₁ => ∀ pl, wpAny (model prog w) A (getMethod ov name pl) (fun fx s2 => wpAny (model prog w) A (callWith pos fx.1 fx.2 (backTo pos (starEach args env)) []) Q E s2) E s₁) E s) :
    wpAny (model prog w) A (eval (.Call (.Attribute o name apos) args [] pos) env) Q E s := by
  rw [arm_eval_Call, hbase]
  refine wpAny_bind (wpAny_mono h (fun ov s₁ h₁ => ?_) fun _ _ e => e)
  refine wpAny_bind (wpAny_standAt ?_)
  have hform : methodCallForm (args.length + ([] : List Keyword).length) (backTo pos (starEach args env)) (backToKw pos (keywordEach [] env)) = true := hfew
  have hpos : methodCallPos true o env apos pos = pure pos := by unfold methodCallPos; simp [hline]
  unfold methodCall
  rw [hform]
  refine wpAny_bind (wpAny_holding (wpAny_mono (h₁ _) (fun fx s2 h2 => ?_) fun _ _ e => e))
  exact wpAny_bind (wpAny_of_eq hpos h2)
end
end Zw

set_option Elab.async false
set_option linter.all false
set_option maxRecDepth 100000
set_option maxHeartbeats 4000000
namespace Zw
open PySem PySem.Spec PyProof.Rows L2
section
variable {X : Cx} {ta : List (Addr × Str)} {mm : MT} {xc : XC} {tp : Md}
theorem Room.u65 {k : Nat} {A : Around} (r : Room k A) : A.units + 65 < cLine := by have := r.un; omega
/-- argument lists -/
theorem pa_of {k : Nat} {W : WX} {f : Expr → Option E} (hf : ∀ e m, f e = some m → PE X e (wE (rx X ta mm xc) k m W)) : ∀ {es : List Expr} {ms : Es}, cEs f es = some ms → PA X es (wEs (rx X ta mm xc) k ms W)
  | [], ms, h => by
    cases h
    exact pa_nil
  | e :: r, ms, h => by
    unfold cEs at h
    split at h
    · rename_i m ms' h1 h2 h3
      cases h
      exact pa_cons (hf _ _ h2) (pa_of hf h3) (starEach_ns h1)
    · cases h
theorem cEs_ns {f : Expr → Option E} {e : Expr} {r : List Expr} {ms : Es} (h : cEs f (e :: r) = some ms) : nsB e = true ∧ ∃ m ms', ms = .cons m ms' ∧ cEs f r = some ms' := by
  unfold cEs at h
  split at h
  · rename_i m ms' h1 h2 h3
    cases h
    exact ⟨h1, m, ms', rfl, h3⟩
  · cases h
theorem star_any {f : Expr → Option E} {env : Env} {pos : Pos} : ∀ {es : List Expr} {ms : Es}, cEs f es = some ms → (backTo pos (starEach es env)).any (·.1) = false
  | [], ms, h => rfl
  | e :: r, ms, h => by
    obtain ⟨h1, m, ms', _, h2⟩ := cEs_ns h
    rw [starEach_ns h1]
    show (false || (backTo pos (starEach r env)).any (·.1)) = false
    rw [star_any h2] <;> rfl
theorem star_all {f : Expr → Option E} {env : Env} {pos : Pos} : ∀ {es : List Expr} {ms : Es}, cEs f es = some ms → (backTo pos (starEach es env)).all (fun x => !x.1) = true
  | [], ms, h => rfl
  | e :: r, ms, h => by
    obtain ⟨h1, m, ms', _, h2⟩ := cEs_ns h
    rw [starEach_ns h1]
    show (!false && (backTo pos (starEach r env)).all (fun x => !x.1)) = true
    rw [star_all h2] <;> rfl
theorem pps_of {k : Nat} {W : WX} {pos : Pos} {f : Expr → Option E} (hf : ∀ e m, f e = some m → PE X e (wE (rx X ta mm xc) k m W)) : ∀ {ks : List (Option Expr)} {vs : List Expr} {ms : Es}, cPs f ks vs = some ms → PPs X pos ks vs (wPs (rx X ta mm xc) k ms W) ∧ ks.all (·.isSome) = true
  | [], [], ms, h => by
    cases h
    exact ⟨pps_nil, rfl⟩
  | some a :: r, b :: q, ms, h => by
    unfold cPs at h
    split at h
    · rename_i m n ms' h1 h2 h3
      cases h
      obtain ⟨p1, p2⟩ := pps_of hf (pos := pos) h3
      exact ⟨pps_cons (hf _ _ h1) (hf _ _ h2) p1, by simpa using p2⟩
    · cases h
  | none :: _, _, _, h => by cases h
  | some _ :: _, [], _, h => by cases h
  | [], _ :: _, _, h => by cases h
theorem po_of {k : Nat} {W : WX} {f : Expr → Option E} (hf : ∀ e m, f e = some m → PE X e (wE (rx X ta mm xc) k m W)) : ∀ {o : Option Expr} {m : O}, cO f o = some m → PO X o (wO (rx X ta mm xc) k m W)
  | none, m, h => by
    cases h
    exact po_none
  | some e, m, h => by
    unfold cO at h
    obtain ⟨x, h1, h2⟩ := Option.map_eq_some_iff.mp h
    cases h2
    exact po_some (hf _ _ h1)
/-- targets of names -/
theorem nmIx_get {N : List Str} {sc : Scope} {c : Bool} {e : Expr} {i : Nat} (h : nmIx N sc c e = some i) : ∃ x p, e = .Name x p ∧ N[i]? = some x ∧ (sc.names.lookup x = some .local ∨ (c = true ∧ sc.names.lookup x = some .cell)) := by
  unfold nmIx at h
  split at h
  · rename_i x p
    split at h
    · exact ⟨x, p, rfl, ixOf_get h, .inl (by assumption)⟩
    · split at h
      · exact ⟨x, p, rfl, ixOf_get h, .inr ⟨by assumption, by assumption⟩⟩
      · cases h
    · cases h
  · cases h
/-- how names of the block's own scope stand in the context -/
def TgOk (X : Cx) (sc0 : Scope) (c : Bool) : Prop := ∀ x, (sc0.names.lookup x = some .local → X.env.scope.names.lookup x = some .local) ∧ (c = true → sc0.names.lookup x = some .cell → X.env.scope.names.lookup x = some .cell ∧ X.fn x = true)
theorem pg_nm {sc0 : Scope} {c : Bool} {e : Expr} {i : Nat} (T : TgOk X sc0 c) (nd : X.N.Nodup) (h : nmIx X.N sc0 c e = some i) : PG X e (gName i) := by
  obtain ⟨x, p, rfl, hN, hl⟩ := nmIx_get h
  rcases hl with hl | ⟨hc, hl⟩
  · exact pg_name nd hN (.inl ((T x).1 hl)) (.inr ((T x).1 hl))
  · exact pg_name nd hN (.inr ((T x).2 hc hl).1) (.inl ((T x).2 hc hl).2)
def gMany : List Nat → TGs
  | [] => gNil
  | i :: is => gCons (gName i) (gMany is)
theorem gMany_ok : ∀ {is : List Nat} {vs : List V} {σ : L2.St} {H : Hp} {Q : L2.St → Hp → Prop}, vs.length = is.length → Q (setMany σ is vs) H → gMany is vs σ H Q
  | [], [], σ, H, Q, _, q => ⟨rfl, q⟩
  | i :: is, v :: vs, σ, H, Q, h, q => ⟨v, vs, rfl, gMany_ok (is := is) (by simpa using h) q⟩
  | [], _ :: _, _, _, _, h, _ => by cases h
  | _ :: _, [], _, _, _, h, _ => by cases h
theorem pgs_nms {sc0 : Scope} {c : Bool} (T : TgOk X sc0 c) (nd : X.N.Nodup) : ∀ {es : List Expr} {is : List Nat}, cNms (nmIx X.N sc0 c) es = some is →
    PGs X es (gMany is) ∧ (assignEach es X.env).length = is.length ∧ (assignEach es X.env).findIdx? (·.1) = none
  | [], is, h => by
    cases h
    exact ⟨pgs_nil, rfl, rfl⟩
  | e :: r, is, h => by
    unfold cNms at h
    split at h
    · rename_i i is' h1 h2
      cases h
      obtain ⟨p1, p2, p3⟩ := pgs_nms T nd h2
      have hn := nmIx_get h1
      obtain ⟨x, p, rfl, _, _⟩ := hn
      refine ⟨pgs_cons (pg_nm T nd h1) p1, ?_, ?_⟩
      · show ((assignEach r X.env).length + 1) = _
        rw [p2] <;> rfl
      · show ((false, _) :: assignEach r X.env).findIdx? (·.1) = none
        rw [List.findIdx?_cons, p3] <;> rfl
    · cases h
theorem pg_unp {sc0 : Scope} {c : Bool} (T : TgOk X sc0 c) (nd : X.N.Nodup) (hc : X.calm = true) {es : List Expr} {is : List Nat} {k : Nat} {pos : Pos} (h : cNms (nmIx X.N sc0 c) es = some is) : PG X (.Tuple es k pos) (rUnp X.K is) := by
  obtain ⟨p1, p2, p3⟩ := pgs_nms T nd h
  refine ⟨fun pins s σ H v u Q I r q => ?_⟩
  obtain ⟨a, xs, rfl, ht, hl, q⟩ := q
  rcases ht with ht | ht
  · exact (pg_tup (n := is.length) hc p1 p2 p3).run pins s σ H _ u Q I r ⟨a, xs, rfl, ht, hl, gMany_ok hl q⟩
  · exact (pg_lst (n := is.length) hc p1 p2 p3).run pins s σ H _ u Q I r ⟨a, xs, rfl, ht, hl, gMany_ok hl q⟩
theorem pg_tg {sc0 : Scope} {c : Bool} (T : TgOk X sc0 c) (nd : X.N.Nodup) (hc : X.calm = true) {tg : Expr} {g : Tg} (h : cTg X.N sc0 c tg = some g) : PG X tg (gTg X.K g) := by
  unfold cTg at h
  split at h
  · obtain ⟨i, h1, h2⟩ := Option.map_eq_some_iff.mp h
    cases h2
    exact pg_nm T nd h1
  · obtain ⟨is, h1, h2⟩ := Option.map_eq_some_iff.mp h
    cases h2
    exact pg_unp T nd hc h1
  · cases h

/-- what a for walks -/
theorem pi_seq {e tg : Expr} {te : TE} (he : PE X e te) : PI X tg e (fun σ H S => te σ H fun x H1 => (∃ a, x = .ref a ∧ (∃ xs, SqL X.K H1 a xs) ∧ S (Itl X.K a) H1) ∨ (∃ a, x = .ref a ∧ (∃ xs, SqT X.K H1 a xs) ∧ S (Itt X.K a) H1) ∨
      (∃ d o kvs, x = .ref d ∧ H1 d = some (.frz o (.dK kvs)) ∧ S (Itk d o kvs) H1) ∨ (∃ z, x = .str z ∧ S (Its z) H1)) := by
  refine ⟨fun pins s σ H R I h => ?_⟩
  refine thn (he.run pins s σ H _ I h) fun v s1 ⟨x, H1, I1, r1, q1⟩ => ?_
  rcases q1 with ⟨a, e, ⟨xs, hq⟩, q⟩ | ⟨a, e, ⟨xs, hq⟩, q⟩ | ⟨d, o, kvs, e, hd, q⟩ | ⟨z, e, q⟩
  · subst e
    cases r1
    obtain ⟨its, rv, p, hz⟩ := I1.list hq
    refine wpAny_pyIter_list p.isList ?_
    refine ⟨s1.heap.objs.size, [s1.heap.objs.size], _, _, H1, rfl, I1.kept (t' := s1.toks) fun b o e => Heap.get?_push_of_some _ e, turn_list a _, ⟨_, Heap.get?_push_size _ rfl, rfl, rfl⟩, fun b hb => ?_, q⟩
    have e : b = s1.heap.objs.size := by simpa using hb
    subst e
    exact I1.fpOk (Nat.le_refl _) (I1.hok.fresh (Nat.le_refl _))
  · subst e
    cases r1
    obtain ⟨its, rv, p, hz⟩ := I1.tuple hq
    refine wpAny_pyIter_tuple (show s1.heap.IsTuple a its.toArray from p) ?_
    refine ⟨s1.heap.objs.size, [s1.heap.objs.size], _, _, H1, rfl, I1.kept (t' := s1.toks) fun b o e => Heap.get?_push_of_some _ e, turn_tuple a _, ⟨_, Heap.get?_push_size _ rfl, rfl, rfl⟩, fun b hb => ?_, q⟩
    have e : b = s1.heap.objs.size := by simpa using hb
    subst e
    exact I1.fpOk (Nat.le_refl _) (I1.hok.fresh (Nat.le_refl _))
  · subst e
    obtain rfl : v = Value.ref d := r1
    obtain ⟨hs, hgd, hx, es, ep, vs, hdt, hsz, kv, hm⟩ := I1.frzK hd
    refine iter_keys hs hgd hx hdt (pi_one (tk := s1.toks) I1 _ (turn_keys _ hdt) ⟨_, Heap.get?_push_size _ rfl, rfl, ?_⟩ q)
    rw [hsz] <;> rfl
  · subst e
    obtain ⟨t, rfl⟩ := r1
    cases ha : z.cps.all (· < 128)
    · exact wpAny_pyIter_wide ha (pi_one (tk := s1.toks) I1 _ (turn_str _ z t "str_iterator" (.inr rfl)) ⟨_, Heap.get?_push_size _ rfl, rfl, rfl⟩ q)
    · exact wpAny_pyIter_ascii ha (pi_one (tk := s1.toks) I1 _ (turn_str _ z t "str_ascii_iterator" (.inl rfl)) ⟨_, Heap.get?_push_size _ rfl, rfl, rfl⟩ q)
theorem PIi {tg e : Expr} {t t' : TI} (h : PI X tg e t) (i : ∀ σ H Q, t' σ H Q → t σ H Q) : PI X tg e t' := ⟨fun pins s σ H Q I q => h.run pins s σ H Q I (i σ H Q q)⟩
end
end Zw

set_option Elab.async false
set_option linter.all false
set_option maxRecDepth 100000
set_option maxHeartbeats 8000000
namespace Zw
open PySem PySem.Spec PyProof.Rows L2
section
variable {X : Cx} {ta : List (Addr × Str)} {mm : MT} {xc : XC} {tp : Md}
theorem clsNames_blt : ∀ x ∈ clsNames, x ∈ bltNames := by decide +kernel
theorem Gd.gl {k : Nat} {sc : Scope} {N : List Str} {W : WX} {x : Str} (g : Gd ta mm xc tp k sc N W X) (h : glB sc x = true) : Gl X x := by
  have := glB_gl h
  rw [← g.sc] at this
  exact this
theorem Gd.vis {k : Nat} {sc : Scope} {N : List Str} {W : WX} {x : Str} (g : Gd ta mm xc tp k sc N W X) (h : visB sc x = true) : Vis X.env.scope x := by
  rw [g.sc]
  exact visB_vis h
/-- the range, enumerate, zip of a for; what else is walked -/
theorem pi_of {k : Nat} {sc : Scope} {N : List Str} {W : WX} (g : Gd ta mm xc tp k sc N W X) {f : Expr → Option E} (hf : ∀ e m, f e = some m → PE X e (wE (rx X ta mm xc) k m W)) {tg it : Expr} {m : I} (h : cI f sc tg it = some m) :
    PI X tg it (wI (rx X ta mm xc) k m W) := by
  have seq : ∀ {e : Expr} {m : I}, (f e).map I.seq = some m → PI X tg e (wI (rx X ta mm xc) k m W) := fun {e m} h => by
    obtain ⟨x, h1, h2⟩ := Option.map_eq_some_iff.mp h
    cases h2
    exact pi_seq (hf _ _ h1)
  unfold cI at h
  split at h
  · rename_i x p args pos
    split at h
    · rename_i hg
      have gl := g.gl hg
      split at h
      · rename_i hx
        subst hx
        have hm : X.mg "range" = none := g.blt _ (by decide +kernel)
        split at h
        · rename_i a
          split at h
          · rename_i hn
            obtain ⟨x, h1, h2⟩ := Option.map_eq_some_iff.mp h
            cases h2
            refine PIi (pi_range1 gl hm (pa_cons (hf _ _ h1) pa_nil (starEach_ns hn)) (starEach_ns hn)) fun σ H Q q => ?_
            refine (show wE (rx X ta mm xc) k x W σ H fun x H1 => ∃ j : Int, [x] = [V.int j] ∧ -(2 ^ 62) ≤ j ∧ j < 2 ^ 62 ∧ Q (Itr 0 j.toNat) H1 from ?_)
            have mono : (fun (x : V) (H1 : Hp) => ∃ j : Int, x = .int j ∧ -(2 ^ 62) ≤ j ∧ j < 2 ^ 62 ∧ Q (Itr 0 j.toNat) H1) = fun x H1 => ∃ j : Int, [x] = [V.int j] ∧ -(2 ^ 62) ≤ j ∧ j < 2 ^ 62 ∧ Q (Itr 0 j.toNat) H1 := by
              funext x H1
              simp
            rw [← mono]
            exact q
          · cases h
        · rename_i a b
          split at h
          · rename_i hn
            simp only [Bool.and_eq_true] at hn
            split at h
            · rename_i m n h1 h2
              cases h
              refine PIi (pi_range2 gl hm (pa_cons (hf _ _ h1) (pa_cons (hf _ _ h2) pa_nil (starEach_ns hn.2)) (starEach_ns hn.1)) (by rw [starEach_ns hn.1, starEach_ns hn.2]; rfl) (starEach_ns hn.2)) fun σ H Q q => ?_
              refine (show wE (rx X ta mm xc) k m W σ H fun x H1 => wE (rx X ta mm xc) k n W σ H1 fun y H2 => ∃ i j : Int, [x, y] = [V.int i, V.int j] ∧ (-(2 ^ 62) ≤ i ∧ i < 2 ^ 62 ∧ -(2 ^ 62) ≤ j ∧ j < 2 ^ 62) ∧ Q (Itr i (j - i).toNat) H2 from ?_)
              have mono : ∀ x : V, (fun (y : V) (H2 : Hp) => ∃ i j : Int, x = .int i ∧ y = .int j ∧ (-(2 ^ 62) ≤ i ∧ i < 2 ^ 62 ∧ -(2 ^ 62) ≤ j ∧ j < 2 ^ 62) ∧ Q (Itr i (j - i).toNat) H2) = fun y H2 => ∃ i j : Int, [x, y] = [V.int i, V.int j] ∧ (-(2 ^ 62) ≤ i ∧ i < 2 ^ 62 ∧ -(2 ^ 62) ≤ j ∧ j < 2 ^ 62) ∧ Q (Itr i (j - i).toNat) H2 := by
                intro x
                funext y H2
                simp [and_assoc]
              simp only [← mono]
              exact q
            · cases h
          · cases h
        · cases h
      · split at h
        · rename_i hx
          subst hx
          have hm : X.mg "enumerate" = none := g.blt _ (by decide +kernel)
          split at h
          · rename_i a
            split at h
            · rename_i hn
              simp only [Bool.and_eq_true] at hn
              obtain ⟨x, h1, h2⟩ := Option.map_eq_some_iff.mp h
              cases h2
              cases tg with
              | Tuple elts kk tpos =>
                refine PIi (pi_enum gl hm (pa_cons (hf _ _ h1) pa_nil (starEach_ns hn.1)) (starEach_ns hn.1)) fun σ H Q q => ?_
                refine (show wE (rx X ta mm xc) k x W σ H fun x H1 => ∃ a xs, [x] = [V.ref a] ∧ SqL X.K H1 a xs ∧ Q (Ite X.K a) H1 from ?_)
                have mono : (fun (x : V) (H1 : Hp) => ∃ a xs, x = V.ref a ∧ SqL X.K H1 a xs ∧ Q (Ite X.K a) H1) = fun x H1 => ∃ a xs, [x] = [V.ref a] ∧ SqL X.K H1 a xs ∧ Q (Ite X.K a) H1 := by
                  funext x H1
                  simp
                rw [← mono]
                exact q
              | _ => cases hn.2
            · cases h
          · cases h
        · split at h
          · rename_i hx
            subst hx
            have hm : X.mg "zip" = none := g.blt _ (by decide +kernel)
            split at h
            · rename_i a b
              split at h
              · rename_i hn
                simp only [Bool.and_eq_true] at hn
                split at h
                · rename_i m n h1 h2
                  cases h
                  cases tg with
                  | Tuple elts kk tpos =>
                    refine PIi (pi_zip gl hm (pa_cons (hf _ _ h1) (pa_cons (hf _ _ h2) pa_nil (starEach_ns hn.1.2)) (starEach_ns hn.1.1)) (starEach_ns hn.1.1) (by rw [starEach_ns hn.1.2]; rfl)) fun σ H Q q => ?_
                    refine (show wE (rx X ta mm xc) k m W σ H fun x H1 => wE (rx X ta mm xc) k n W σ H1 fun y H2 => ∃ a b xs ys, [x, y] = [V.ref a, V.ref b] ∧ SqL X.K H2 a xs ∧ SqL X.K H2 b ys ∧ Q (Itz X.K a b) H2 from ?_)
                    have mono : ∀ x : V, (fun (y : V) (H2 : Hp) => ∃ a b xs ys, x = V.ref a ∧ y = V.ref b ∧ SqL X.K H2 a xs ∧ SqL X.K H2 b ys ∧ Q (Itz X.K a b) H2) = fun y H2 => ∃ a b xs ys, [x, y] = [V.ref a, V.ref b] ∧ SqL X.K H2 a xs ∧ SqL X.K H2 b ys ∧ Q (Itz X.K a b) H2 := by
                      intro x
                      funext y H2
                      simp [and_assoc]
                    simp only [← mono]
                    exact q
                  | _ => cases hn.2
                · cases h
              · cases h
            · cases h
          · split at h
            · cases h
            · exact seq h
    · exact seq h
  · rename_i o mm apos cpos
    split at h
    · rename_i hmm
      subst hmm
      split at h
      · rename_i hn
        simp only [Bool.and_eq_true, Bool.not_eq_true'] at hn
        obtain ⟨x, h1, h2⟩ := Option.map_eq_some_iff.mp h
        cases h2
        cases tg with
        | Tuple elts kk tpos => exact pi_items (hf _ _ h1) (base_ns hn.1.2) hn.2
        | _ => cases hn.1.1
      · cases h
    · split at h
      · cases h
      · exact seq h
  · cases h
  · split at h
    · cases h
    · exact seq h
end
end Zw

set_option Elab.async false
set_option linter.all false
set_option maxRecDepth 100000
set_option maxHeartbeats 8000000
namespace Zw
open PySem PySem.Spec PyProof.Rows L2
theorem relS_keep {scope sc : Scope} {x : Str} {k : NameKind} (hk : k ≠ .free) (h : scope.names.lookup x = some k) : (relS scope sc).names.lookup x = some k := by
  show (scope.names.map _).lookup x = some k
  generalize scope.names = l at h
  induction l with
  | nil => cases h
  | cons y r ih =>
    obtain ⟨n, k'⟩ := y
    rw [List.lookup_cons] at h
    simp only [List.map_cons]
    by_cases hx : x == n
    · rw [hx] at h
      cases h
      have : ¬ ((k == NameKind.free && sc.kind == .function && sc.names.lookup n == some .cell) = true) := by
        intro z
        simp only [Bool.and_eq_true, beq_iff_eq] at z
        exact hk z.1.1
      rw [if_neg this, List.lookup_cons, hx]
    · have hx' : (x == n) = false := by simpa using hx
      rw [hx'] at h
      split <;> (rw [List.lookup_cons, hx']; exact ih h)
section
variable {X : Cx} {ta : List (Addr × Str)} {mm : MT} {xc : XC} {tp : Md}
theorem Gd.w0 {k : Nat} {sc : Scope} {N : List Str} {W : WX} (g : Gd ta mm xc tp k sc N W X) : Gd ta mm xc tp k sc N W0 X := ⟨g.N, g.nd, g.sc, g.room, g.u65, g.calm, takes0, g.own, g.blt, g.exn, g.exq, g.exi, g.lam⟩
theorem Gd.blk {k : Nat} {sc : Scope} {N : List Str} {W : WX} (g : Gd ta mm xc tp k sc N W X) (hcm : tp.c = true) (scope : Scope) (s : Shared) (H : Hp) (C : Addr) (cl : List (Str × Addr)) (fp : List Addr) : Gd ta mm xc .no k (relS scope sc) N W0 (X.blk s H scope (compEnvC scope cl C X.env) fp) := by
  refine ⟨g.N, g.nd, ?_, fun _ => g.room hcm, g.u65, fun _ => g.calm hcm, takes0, PassesOwn.never, g.blt, fun _ => g.exn hcm, (fun z => by cases z), (fun z => by cases z), (fun z => by cases z)⟩
  show (compEnvC scope cl C X.env).scope = _
  rw [← g.sc] <;> rfl
theorem tg_blk {scope : Scope} (s : Shared) (H : Hp) (C : Addr) (cl : List (Str × Addr)) (fp : List Addr) : TgOk (X.blk s H scope (compEnvC scope cl C X.env) fp) scope true := fun x => by
  have e : (X.blk s H scope (compEnvC scope cl C X.env) fp).env.scope = relS scope X.env.scope := rfl
  rw [e]
  refine ⟨fun h => relS_keep (by decide) h, fun _ h => ⟨relS_keep (by decide) h, ?_⟩⟩
  show (scope.names.lookup x == some .cell) = true
  rw [h] <;> rfl
theorem PEor {e : Expr} {t t' : TE} (h : PE X e t) (h' : PE X e t') : PE X e (fun σ H Q => t σ H Q ∨ t' σ H Q) := ⟨fun pins s σ H Q I q => q.elim (h.run pins s σ H Q I) (h'.run pins s σ H Q I)⟩
theorem PSor {e : Stmt} {t t' : TS} (h : PS X e t) (h' : PS X e t') : PS X e (fun D σ H => t D σ H ∨ t' D σ H) := ⟨fun pins s σ H Q I q => q.elim (h.run pins s σ H Q I) (h'.run pins s σ H Q I)⟩
theorem chain_m {o1 o2 : CmpOp} {b c : Expr} (hb : setB b = false) (hc : setB c = false) : lastMarks [o1, o2] [b, c] = false := by
  show behindInMarks o2 c = false
  cases c <;> first | rfl | cases hc
/-- f(..) of the module -/
theorem pe_glcall {k : Nat} {sc : Scope} {N : List Str} {W : WX} (g : Gd ta mm xc tp k sc N W X) (hcm : tp.c = true) {f : Expr → Option E} (hf : ∀ e m, f e = some m → PE X e (wE (rx X ta mm xc) k m W)) {x : Str} {p pos : Pos} {args : List Expr} {es : Es} (hx : glB sc x = true) (ho : okName x = true) (h : cEs f args = some es) :
    PE X (.Call (.Name x p) args [] pos) (wE (rx X ta mm xc) k (.call x es) W) := by
  have gl := g.gl hx
  obtain ⟨hd, hcd, hn⟩ := okName_d ho
  refine ⟨fun pins s σ H Q I q => ?_⟩
  obtain ⟨a, hm, hk, q⟩ := q
  refine wpAny_Call_Name_kw (ld_glob I gl hm ?_ hd)
  cases args with
  | nil =>
    cases h
    obtain ⟨sp, c, q⟩ := q
    exact PySem.W.callWith_K0 I.kIn hk (c.run X rfl (g.room hcm) pins σ H s Q _ [] [] I (passAt g.tk σ) .nil q)
  | cons e r =>
    obtain ⟨h1, m, ms', rfl, h2⟩ := cEs_ns h
    refine PySem.W.callWith_K (h₀ := X.base) I.ok.mod.kin hk (thn ((pa_of hf h).run pos pins s σ H _ I q) fun us s1 ⟨vs, H1, I1, r1, sp, c, q1⟩ => ⟨I1.kIn, ?_⟩) (starEach_ns h1) (star_any h2)
    exact c.run X rfl (g.room hcm) pins σ H1 s1 Q _ us vs I1 (passAt g.tk σ) r1 q1
/-- o.m(..) -/
theorem pe_ometh {k : Nat} {sc : Scope} {N : List Str} {W : WX} (g : Gd ta mm xc tp k sc N W X) {f : Expr → Option E} (hf : ∀ e m, f e = some m → PE X e (wE (rx X ta mm xc) k m W)) {o : Expr} {m : Str} {a : E} {apos pos : Pos} {args : List Expr} {es : Es}
    (ho : PE X o (wE (rx X ta mm xc) k a W)) (hc : callB o = false) (hl : (apos.endLine == pos.line) = true) (h30 : args.length < 30) (h : cEs f args = some es) : PE X (.Call (.Attribute o m apos) args [] pos) (wE (rx X ta mm xc) k (.meth a m (mtsOf m) es) W) := by
  refine ⟨fun pins s σ H Q I q => ?_⟩
  refine meth_at (base_ns hc) ?_ hl (thn (ho.run pins s σ H _ I q) fun v s1 ⟨x, H1, I1, r1, q1⟩ pl => ?_)
  · rw [star_all h]
    simp [h30, backToKw, keywordEach]
  · rcases q1 with ⟨hxn, p, C, dx, fs, gg, rfl, e, cl, hm, lk, q1⟩ | ⟨t, ht, ty, q1⟩
    · obtain rfl : v = Value.ref p := r1
      refine getmeth_ok I1 e cl hm lk ?_
      cases args with
      | nil =>
        cases h
        obtain ⟨sp, c, q1⟩ := q1
        exact PySem.W.callWith_K0 (first := [.ref p]) I1.kIn hm.kp (c.run X rfl (g.room (g.c_of hxn)) pins σ H1 s1 Q _ [.ref p] [.ref p] I1 (passAt g.tk σ) (.cons rfl .nil) q1)
      | cons e r =>
        obtain ⟨h1, m', ms', rfl, h2⟩ := cEs_ns h
        refine PySem.W.callWith_K (first := [.ref p]) (h₀ := X.base) I.ok.mod.kin hm.kp (thn ((pa_of hf h).run pos pins s1 σ H1 _ I1 q1) fun us s2 ⟨vs, H2, I2, r2, sp, c, q2⟩ => ⟨I2.kIn, ?_⟩) (starEach_ns h1) (star_any h2)
        exact c.run X rfl (g.room (g.c_of hxn)) pins σ H2 s2 Q _ (.ref p :: us) (.ref p :: vs) I2 (passAt g.tk σ) (.cons rfl r2) q2
    · obtain ⟨id, pa, slot, hty, mt⟩ := m_all (g.u65) t
      rw [mtsOf_name ht] at slot
      obtain ⟨h1, h2⟩ := tyV_is I1 r1 ty
      refine PySem.getMethod_builtin h1 pa slot hty h2 ?_
      cases args with
      | nil =>
        cases h
        exact Calls.callWith_builtin rfl (PySem.evalArgs_none (mt pins s1 σ H1 x [] v [] Q I1 r1 .nil q1))
      | cons e r =>
        obtain ⟨h3, m', ms', rfl, h4⟩ := cEs_ns h
        have hA := (pa_of hf h).run pos pins s1 σ H1 _ I1 q1
        rw [starEach_ns h3] at hA ⊢
        refine Calls.callWith_builtin (by show (false || (backTo pos (starEach r X.env)).any (·.1)) = false; rw [star_any h4] <;> rfl) (Calls.evalArgs_plain ?_)
        exact thn hA fun us s2 ⟨vs, H2, I2, r2, q2⟩ => mt pins s2 σ H2 x vs v us Q I2 r1 r2 q2
/-- a built-in function or type -/
theorem pe_bicall {k : Nat} {sc : Scope} {N : List Str} {W : WX} (g : Gd ta mm xc tp k sc N W X) {f : Expr → Option E} (hf : ∀ e m, f e = some m → PE X e (wE (rx X ta mm xc) k m W)) {b : Bi} {p pos : Pos} {e : Expr} {r : List Expr} {es : Es} (hx : glB sc (biName b) = true) (hq : quB b = true ∨ tp.c = true) (h : cEs f (e :: r) = some es) :
    PE X (.Call (.Name (biName b) p) (e :: r) [] pos) (wE (rx X ta mm xc) k (.callB b es) W) := by
  obtain ⟨hv, hk, hn, hd⟩ := b_bi b
  obtain ⟨h1, m, ms', rfl, h2⟩ := cEs_ns h
  have hm : X.mg (biName b) = none := g.blt _ (biName_mem b)
  rcases hk with ⟨i, hi⟩ | ⟨i, hi⟩
  · rw [hi] at hv
    have c := c_bi (X := X) b (hq.imp_right g.calm) g.ex
    rw [hi] at c
    exact pe_callB c (g.gl hx) hm hv (pa_of hf h) hn hd (starEach_ns h1) (star_any h2)
  · rw [hi] at hv
    have c := c_bi (X := X) b (hq.imp_right g.calm) g.ex
    rw [hi] at c
    exact pe_callTy c (g.gl hx) hm hv (pa_of hf h) hn hd (starEach_ns h1) (star_any h2)
/-- a call to which lambdas are handed -/
theorem pe_zcall {k : Nat} {sc : Scope} {N : List Str} {W : WX} (g : Gd ta mm xc tp k sc N W X) {f : Expr → Option E} (hf : ∀ e m, f e = some m → PE X e (wE (rx X ta mm xc) k m W)) {x : Str} {p pos : Pos} {e : Expr} {r : List Expr} {es : Es} (hx : glB sc x = true) (hd : (x == ("__debug__" : Str)) = false) (htp : tp.l = true) (h : cEs f (e :: r) = some es) :
    PE X (.Call (.Name x p) (e :: r) [] pos) (wE (rx X ta mm xc) k (.callZ x es) W) := by
  obtain ⟨hfn, hmm, _⟩ := g.lam htp
  refine ⟨fun pins s σ H Q I q => ?_⟩
  obtain ⟨a, hm, hk, q⟩ := q
  refine wpAny_Call_Name_kw (ld_glob I (g.gl hx) hm ?_ hd)
  obtain ⟨h1, m, ms', rfl, h2⟩ := cEs_ns h
  refine PySem.W.callWith_K (h₀ := X.base) I.ok.mod.kin hk (thn ((pa_of hf h).run pos pins s σ H _ I q) fun us s1 ⟨vs, H1, I1, r1, sp, c, q1⟩ => ⟨I1.kIn, ?_⟩) (starEach_ns h1) (star_any h2)
  refine run_z c (g.room (by cases tp <;> first | rfl | (cases htp))) hfn I1 r1 (q1 (czOf X s1) (czOk I1).k (fun a o e => ?_) fun f fz φ hM j => ?_)
  · obtain ⟨⟨y, hy⟩, _⟩ := czOf_some e
    exact I1.freeC y a hy
  · have hM : mm f fz φ := hM
    rw [hmm] at hM
    exact hM σ (czOf X s1) (czOk I1) j
/-- a name of the module -/
theorem pe_gl {k : Nat} {sc : Scope} {N : List Str} {W : WX} {x : Str} {p : Pos} (g : Gd ta mm xc tp k sc N W X) (hg : glB sc x = true) (hd : (x == ("__debug__" : Str)) = false) : PE X (.Name x p) (fun σ H Q => ∃ v u, X.mg x = some u ∧ RelV v u ∧ Q v H) := by
  refine ⟨fun pins s σ H Q I q => ?_⟩
  obtain ⟨v, u, hv, r, q⟩ := q
  exact (pe_glob (g.gl hg) hv r hd).run pins s σ H Q I q
/-- a lambda's value -/
theorem pe_lamv {k : Nat} {sc : Scope} {N : List Str} {W : WX} {params : Arguments} {body : Expr} {scope : Scope} {pos : Pos} {l : List (Str × Int)} {b : E} (g : Gd ta mm xc .lam k sc N W X) (hl : lparB params = some l) (hlam : lamB N sc scope l = true)
    (hb : ∀ (j : Nat) (A : Around) (outer : List Env) (s : Shared) (H : Hp) (E : XK) (f c' : Addr), Room j (A.deeper (LamX.lamEnv X scope s.heap.objs.size f c')) → PE (LamX.lamCx X A outer s H E scope f c') body (wE (rx X ta mm xc) j b fun cls d _ H' => E cls d H')) :
    PE X (.Lambda params body scope pos) (wE (rx X ta mm xc) k (.lam b) W) := by
  obtain ⟨hfn, hmm, c, P, TB, hcode, hm, hu⟩ := g.lam rfl
  have L : LamSc X.N X.env.scope scope l := by
    rw [g.N, g.sc]
    exact lamB_ok hlam
  refine ⟨fun pins s σ H Q I q => ?_⟩
  obtain ⟨hT, q⟩ := q
  refine (pe_lam (lparB_ok hl) L TB hcode hm hu).run pins s σ H Q I ⟨hT, fun f fz H1 k1 t1 z1 md => q f fz H1 k1 t1 z1 (by obtain ⟨_, _, _, _, _, _, _, _, z⟩ := md; exact z) ?_⟩
  have of_ : ∀ φ, Mof X f fz φ → mm f fz φ := fun φ h => by rw [hmm]; exact h
  exact of_ _ fun σ cz ck j => lamOk_of (t := fun E σ H Q => wE (rx X ta mm xc) j b (fun cls d _ H' => E cls d H') σ H Q) ck md (lparB_ok hl) L I.ok.glob fun A outer s H E f c' hr => hb j A outer s H E f c' hr
/-- THE READING HOLDS: of an expression and of a test that were read over -/
theorem sE_all (ta : List (Addr × Str)) (mm : MT) (xc : XC) (N : List Str) : ∀ n, (∀ (tp : Md) (sc : Scope) (e : Expr) (m : E), cE N n tp sc e = some m → ∀ (k : Nat) (W : WX) (X : Cx), Gd ta mm xc tp k sc N W X → PE X e (wE (rx X ta mm xc) k m W)) ∧
    (∀ (tp : Md) (sc : Scope) (e : Expr) (m : T), cT N n tp sc e = some m → ∀ (k : Nat) (W : WX) (X : Cx), Gd ta mm xc tp k sc N W X → PT X e (wT (rx X ta mm xc) k m W) ∧ ∀ op vs p, e = .BoolOp op vs p → PW X e (wT (rx X ta mm xc) k m W)) := by
  intro n
  induction n with
  | zero => exact ⟨fun _ _ _ _ h => (by unfold cE at h; cases h), fun _ _ _ _ h => (by unfold cT at h; cases h)⟩
  | succ n ih =>
    obtain ⟨ihE, ihT⟩ := ih
    refine ⟨fun tp sc e m h k W X g => ?_, fun tp sc e m h k W X g => ?_⟩
    · have hf : ∀ e m, cE N n tp sc e = some m → PE X e (wE (rx X ta mm xc) k m W) := fun e m h => ihE tp sc e m h k W X g
      have hu := g.u65
      unfold cE at h
      cases e with
      | Name x p =>
        dsimp only at h
        split at h
        · rename_i ho
          obtain ⟨hd, hcd, hn⟩ := okName_d ho
          split at h
          · rename_i hv
            obtain ⟨i, h1, h2⟩ := Option.map_eq_some_iff.mp h
            cases h2
            exact pe_var (by rw [g.N]; exact ixOf_get h1) (g.vis hv) hd hcd
          · split at h
            · rename_i hg
              split at h
              · rename_i hc
                cases h
                refine ⟨fun pins s σ H Q I q => ?_⟩
                obtain ⟨v, u, hv, r, q⟩ := q
                exact (pe_bltn (g.gl hg) (g.blt _ (clsNames_blt _ hc)) hv r hn hd).run pins s σ H Q I q
              · cases h
                refine ⟨fun pins s σ H Q I q => ?_⟩
                obtain ⟨v, u, hv, r, q⟩ := q
                exact (pe_glob (g.gl hg) hv r hd).run pins s σ H Q I q
            · cases h
        · cases h
      | Constant c j p =>
        dsimp only at h
        split at h <;> first | (cases h; first | exact pe_int | exact pe_str | exact pe_bl | exact pe_non) | cases h
      | BinOp a op b p =>
        dsimp only at h
        split at h
        · rename_i x y h1 h2
          cases h
          exact pe_op (o_bin op) (hf _ _ h1) (hf _ _ h2)
        · cases h
      | UnaryOp op a p =>
        dsimp only at h
        split at h
        · obtain ⟨x, h1, h2⟩ := Option.map_eq_some_iff.mp h
          cases h2
          exact pe_un un_neg (hf _ _ h1)
        · obtain ⟨x, h1, h2⟩ := Option.map_eq_some_iff.mp h
          cases h2
          exact pe_notT (hf _ _ h1)
        · cases h
      | BoolOp op vs p =>
        dsimp only at h
        split at h
        · cases h
        · exact pe_one (hf _ _ h)
        · rename_i a b r
          split at h
          · rename_i x y h1 h2
            cases h
            cases op
            · exact pe_andT (hf _ _ h1) (hf _ _ h2)
            · exact pe_orT (hf _ _ h1) (hf _ _ h2)
          · cases h
      | Compare a ops cs p =>
        dsimp only at h
        split at h
        · rename_i op b
          split at h
          · cases h
          · rename_i hm
            split at h
            · rename_i ng x h1 h2
              obtain ⟨m, h3, h4⟩ := Option.map_eq_some_iff.mp h
              cases h4
              obtain ⟨p2, rfl, ho, hg⟩ := glN_eq h2
              have e := inOp_eq h1
              subst e
              exact pe_cmpR ((o_inK ng).or (o_cmp _ hu)) (hf _ _ h3) (pe_gl g hg (okName_d ho).1) (by simpa using hm)
            · split at h
              · rename_i x y h1 h2
                cases h
                exact pe_cmpR (o_cmp op hu) (hf _ _ h1) (hf _ _ h2) (by simpa using hm)
              · cases h
        · rename_i o1 o2 b c
          split at h
          · cases h
          · rename_i hm
            simp only [Bool.or_eq_true, not_or, Bool.not_eq_true] at hm
            split at h
            · rename_i x y z h1 h2 h3
              cases h
              exact pe_chain (o_cmp o1 hu) (o_cmp o2 hu) (hf _ _ h1) (hf _ _ h2) (hf _ _ h3) (chain_m hm.1 hm.2)
            · cases h
        · cases h
      | IfExp t a b p =>
        dsimp only at h
        split at h
        · rename_i x y z h1 h2 h3
          cases h
          exact pe_ifExp (ihT tp sc _ _ h1 k W X g).1 (hf _ _ h2) (hf _ _ h3)
        · cases h
      | Attribute a f p =>
        dsimp only at h
        split at h
        · cases h
        · rename_i hc
          obtain ⟨x, h1, h2⟩ := Option.map_eq_some_iff.mp h
          cases h2
          exact pe_fld (hf _ _ h1) (base_ns (by simpa using hc))
      | Subscript a i p =>
        dsimp only at h
        split at h
        · split at h
          · rename_i x l hh h1 h2 h3
            cases h
            exact pe_slice x_cut (hf _ _ h1) (po_of hf h2) (po_of hf h3)
          · cases h
        · split at h
          · cases h
          · rename_i hs
            split at h
            · rename_i x h1
              obtain ⟨m, h3, h4⟩ := Option.map_eq_some_iff.mp h
              cases h4
              obtain ⟨p2, rfl, ho, hg⟩ := glN_eq h1
              refine PEi (pe_ix (ix_kdict.or (x_sub hu)) (pe_gl g hg (okName_d ho).1) (hf _ _ h3) (plain_ns (by simpa using hs))) fun σ H Q q => ?_
              obtain ⟨y, u, q1, q2, q3⟩ := q
              exact ⟨y, u, q1, q2, q3⟩
            · split at h
              · rename_i x y h1 h2
                cases h
                exact pe_ix (x_sub hu) (hf _ _ h1) (hf _ _ h2) (plain_ns (by simpa using hs))
              · cases h
      | Tuple es j p =>
        dsimp only at h
        split at h
        · rename_i a b p2
          split at h
          · rename_i hn
            split at h
            · rename_i x y h1 h2
              cases h
              exact pe_tup (pa_cons (hf _ _ h1) (StX.pa_star (hf _ _ h2) pa_nil) (starEach_ns hn))
            · cases h
          · cases h
        · obtain ⟨x, h1, h2⟩ := Option.map_eq_some_iff.mp h
          cases h2
          exact pe_tup (pa_of hf h1)
      | List es p =>
        dsimp only at h
        obtain ⟨x, h1, h2⟩ := Option.map_eq_some_iff.mp h
        cases h2
        exact pe_lst (pa_of hf h1)
      | Dict ks vs p =>
        dsimp only at h
        split at h
        · rename_i he
          cases h
          obtain ⟨he1, he2⟩ := Bool.and_eq_true_iff.mp he
          obtain rfl := List.isEmpty_iff.mp he1
          obtain rfl := List.isEmpty_iff.mp he2
          exact PEor pe_dnewK pe_dnewT
        split at h
        · cases h
        · rename_i hc
          simp only [Bool.or_eq_true, not_or, Bool.not_eq_true, Bool.not_eq_false', decide_eq_true_eq, Bool.not_eq_true'] at hc
          obtain ⟨x, h1, h2⟩ := Option.map_eq_some_iff.mp h
          cases h2
          obtain ⟨p1, p2⟩ := pps_of hf (pos := p) h1
          obtain ⟨⟨c1, c2⟩, c3⟩ := hc
          exact pe_disp p1 p2 (by simpa using c2) (by intro z; rw [z] at c1; cases c1) (by simpa using c3)
      | Call f args kws pos =>
        dsimp only at h
        split at h
        · rename_i x p
          split at h
          · rename_i ho
            obtain ⟨hd, hcd, _⟩ := okName_d ho
            split at h
            · rename_i hv
              split at h
              · rename_i hem
                obtain ⟨hem, hcm⟩ := Bool.and_eq_true_iff.mp hem
                obtain ⟨i, h1, h2⟩ := Option.map_eq_some_iff.mp h
                cases h2
                cases args with
                | cons _ _ => cases hem
                | nil =>
                  refine ⟨fun pins s σ H Q I q => ?_⟩
                  obtain ⟨f, G, sp, hs, hG, c, q⟩ := q
                  refine wpAny_Call_Name_kw (thn ((pe_var (pos := p) (i := i) (by rw [g.N]; exact ixOf_get h1) (g.vis hv) hd hcd).run pins s σ H (fun v H1 => v = .ref f ∧ H1 = H) I ⟨_, hs, rfl, rfl⟩) fun u s1 ⟨v, H1, I1, r1, e1, e2⟩ => ?_)
                  subst e1
                  subst e2
                  obtain rfl : u = Value.ref f := r1
                  exact PySem.W.callWith_F0 (c.at_ _ _ _ _ I1.hok hG) (c.run X rfl (g.room hcm) pins σ H1 s1 Q _ I1 hG (passAt g.tk σ) q)
              · cases h
            · split at h
              · rename_i hgl
                split at h
                · rename_i es h1
                  split at h
                  · rename_i b hb
                    split at h
                    · cases h
                    · rename_i hne
                      split at h
                      · rename_i hqu
                        cases h
                        have e := biOf_name hb
                        subst e
                        cases args with
                        | nil => exact absurd rfl hne
                        | cons a r => exact pe_bicall g hf hgl (by rcases Bool.or_eq_true_iff.mp hqu with z | z; exact .inr z; exact .inl z) h1
                      · cases h
                  · split at h
                    · rename_i hz
                      simp only [Bool.and_eq_true] at hz
                      split at h
                      · cases h
                      · rename_i hne
                        cases h
                        cases args with
                        | nil => exact absurd rfl hne
                        | cons a r => exact pe_zcall g hf hgl hd hz.1 h1
                    · split at h
                      · rename_i hcm
                        cases h
                        exact pe_glcall g hcm hf hgl ho h1
                      · cases h
                · cases h
              · cases h
          · cases h
        · rename_i o mth apos
          split at h
          · cases h
          · rename_i hc
            simp only [Bool.or_eq_true, not_or, Bool.not_eq_true, Bool.not_eq_false', decide_eq_true_eq] at hc
            split at h
            · rename_i a es h1 h2
              cases h
              exact pe_ometh g hf (hf _ _ h1) hc.1.1 (by simpa using hc.1.2) (by simpa using hc.2) h2
            · cases h
        · cases h
      | Lambda params body scope pos =>
        dsimp only at h
        split at h
        · rename_i htp
          obtain rfl : tp = .lam := by cases tp <;> first | rfl | (cases htp)
          split at h
          · rename_i l hl
            split at h
            · rename_i hlam
              obtain ⟨b, h1, h2⟩ := Option.map_eq_some_iff.mp h
              cases h2
              exact pe_lamv g hl hlam fun j A outer s H E f c' hr => ihE .no scope body b h1 j _ _ ⟨g.N, g.nd, rfl, fun _ => hr, Zw.Room.u65 hr, fun _ => rfl, takes_of rfl rfl rfl rfl, passes_of rfl, g.blt, fun _ => g.exn rfl, (fun z => by cases z), (fun z => by cases z), (fun z => by cases z)⟩
            · cases h
          · cases h
        · cases h
      | ListComp elt gens scope p =>
        dsimp only at h
        split at h
        · rename_i tg iter ifs asy
          split at h
          · rename_i hc
            simp only [Bool.and_eq_true, decide_eq_true_eq, Bool.not_eq_true'] at hc
            obtain ⟨⟨⟨hasy, hblk⟩, hset⟩, hcm⟩ := hc
            subst hasy
            split at h
            · rename_i it gg tt x h1 h2 h3 h4
              cases h
              have hf0 : ∀ e m, cE N n tp sc e = some m → PE X e (wE (rx X ta mm xc) k m W0) := fun e m h => ihE tp sc e m h k W0 X g.w0
              have hN : X.N = N := g.N
              have ok : BlkOk X.N X.env.scope scope (ownOf N (tgNames tg)) := by
                rw [g.N, g.sc]
                exact blkOk_by hblk
              have one : PE X (.ListComp elt [⟨tg, iter, ifs, 0⟩] scope p) (tLc (fun σ H S => wI (rx X ta mm xc) k it W0 σ H S) (gTg (rx X ta mm xc).K gg) (fun σ H S => wT (rx X ta mm xc) k tt W0 σ H S) (fun σ H S => wE (rx X ta mm xc) k x W0 σ H S) ((ownOf N (tgNames tg)).map (·.2))) := by
                refine pe_lc (g.calm hcm) g.nd (pi_of g.w0 hf0 h1) ok (fun s H C cl fp => ?_) (fun s H C cl fp => ?_) (fun s H C cl fp => ?_) (fold_ns hset)
                · exact pg_tg (tg_blk s H C cl fp) g.nd (g.calm hcm) (by rw [show (X.blk s H scope (compEnvC scope cl C X.env) fp).N = N from g.N]; exact h2)
                · have gb := g.blk hcm scope s H C cl fp
                  split at h3
                  · cases h3
                    exact pts_nil
                  · exact pts_one (ihT _ _ _ _ h3 k W0 _ gb).1
                  · cases h3
                · exact ihE _ _ _ _ h4 k W0 _ (g.blk hcm scope s H C cl fp)
              exact PEor one (pe_lock one)
            · cases h
          · cases h
        · cases h
      | _ => cases h
    · have hf : ∀ e m, cE N n tp sc e = some m → PE X e (wE (rx X ta mm xc) k m W) := fun e m h => ihE tp sc e m h k W X g
      unfold cT at h
      cases e with
      | UnaryOp op a p =>
        refine ⟨?_, fun _ _ _ z => by cases z⟩
        cases op with
        | Not =>
          dsimp only at h
          obtain ⟨x, h1, h2⟩ := Option.map_eq_some_iff.mp h
          cases h2
          exact pt_not (ihT _ _ _ _ h1 k W X g).1
        | _ =>
          dsimp only at h
          obtain ⟨x, h1, h2⟩ := Option.map_eq_some_iff.mp h
          cases h2
          exact pt_truth (hf _ _ h1) fun _ => rfl
      | BoolOp op vs p =>
        have hw : PW X (.BoolOp op vs p) (wT (rx X ta mm xc) k m W) := by
          dsimp only at h
          split at h
          · cases h
          · have q := (ihT _ _ _ _ h k W X g).1
            cases op
            · exact pw_and1 q
            · exact pw_or1 q
          · rename_i a b r
            split at h
            · rename_i x y h1 h2
              cases h
              have q1 := (ihT _ _ _ _ h1 k W X g).1
              have q2 := (ihT _ _ _ _ h2 k W X g).2 _ _ _ rfl
              cases op
              · exact pw_and q1 q2
              · exact pw_or q1 q2
            · cases h
        exact ⟨hw.pt, fun _ _ _ z => hw⟩
      | Compare a ops cs p =>
        refine ⟨?_, fun _ _ _ z => by cases z⟩
        have hu := g.u65
        dsimp only at h
        split at h
        · rename_i op b
          split at h
          · cases h
          · rename_i hm
            split at h
            · rename_i ng x h1 h2
              obtain ⟨m, h3, h4⟩ := Option.map_eq_some_iff.mp h
              cases h4
              obtain ⟨p2, rfl, ho, hg⟩ := glN_eq h2
              have e := inOp_eq h1
              subst e
              exact pt_cmpR ((o_inK ng).or (o_cmp _ hu)) (hf _ _ h3) (pe_gl g hg (okName_d ho).1) (by simpa using hm)
            · split at h
              · rename_i x y h1 h2
                cases h
                exact pt_cmpR (o_cmp op hu) (hf _ _ h1) (hf _ _ h2) (by simpa using hm)
              · cases h
        · rename_i o1 o2 b c
          split at h
          · cases h
          · rename_i hm
            simp only [Bool.or_eq_true, not_or, Bool.not_eq_true] at hm
            split at h
            · rename_i x y z h1 h2 h3
              cases h
              exact pt_chain (o_cmp o1 hu) (o_cmp o2 hu) (hf _ _ h1) (hf _ _ h2) (hf _ _ h3) (chain_m hm.1 hm.2)
            · cases h
        · cases h
      | IfExp t a b p => cases h
      | _ =>
        refine ⟨?_, fun _ _ _ z => by cases z⟩
        dsimp only at h
        obtain ⟨x, h1, h2⟩ := Option.map_eq_some_iff.mp h
        cases h2
        exact pt_truth (hf _ _ h1) fun _ => rfl
end
end Zw

set_option Elab.async false
set_option linter.all false
set_option maxRecDepth 100000
set_option maxHeartbeats 8000000
namespace Zw
open PySem PySem.Spec PyProof.Rows L2
/-! ## statements -/
/-- two names stored from two written values, one behind the other -/
def parB (sc : Scope) (x y : Str) (px py : Pos) (vs : List Expr) : Bool :=
  decide (sc.kind = .function) && decide (sc.names.lookup x = some .local) && decide (sc.names.lookup y = some .local) && decide (px.line = py.line) && !(x == y) && vs.all nsB && !vs.all (foldedForSure 8) && !vs.all (constantsAlone 8)
/-- an unpacking of a written tuple that is one tuple first -/
def unpB (sc : Scope) (ts vs : List Expr) : Bool :=
  !(ts.length == 2 || ts.length == 3) || ts.any (fun | .Name x _ => decide (sc.names.lookup x ≠ some .local) | _ => true) || vs.all (foldedForSure 8)
def cTts (f : Expr → Option E) (g : Expr → Option Nat) : List Expr → Option Tts
  | [] => some .nil
  | .Subscript a i _ :: r => if slB i then none else (match f a, f i, cTts f g r with | some x, some y, some ts => some (.sb x y ts) | _, _, _ => none)
  | e :: r => (match g e, cTts f g r with | some i, some ts => some (.nm i ts) | _, _ => none)
def strB : Expr → Bool | .Constant (.str _) _ _ => true | _ => false
/-- name = [..] on one line -/
def lcB (sc : Scope) (x : Str) (px : Pos) : Expr → Bool
  | .ListComp _ _ scope p => decide (sc.kind = .function) && decide (sc.names.lookup x = some .local) && (px.line == p.line) && !(scope.names.any fun (n, k) => n == x && (k == .local || k == .cell))
  | _ => false
/-- x, *y -/
def cStar (g : Expr → Option Nat) : List Expr → Option (Nat × Nat)
  | [a, .Starred b _] => (match g a, g b with | some i, some j => some (i, j) | _, _ => none)
  | _ => none
theorem cStar_eq {g : Expr → Option Nat} {ts : List Expr} {i j : Nat} (h : cStar g ts = some (i, j)) : ∃ a b p, ts = [a, .Starred b p] ∧ g a = some i ∧ g b = some j := by
  unfold cStar at h
  split at h
  · split at h
    · rename_i h1 h2
      cases h
      exact ⟨_, _, _, rfl, h1, h2⟩
    · cases h
  · cases h
def cRaise (sc : Scope) : Option Expr → Option Expr → Option S
  | some (.Call (.Name x _) [.Constant (.str _) _ _] [] _), none => if okName x && glB sc x then some (.raise x) else none
  | _, _ => none
theorem cRaise_eq {sc : Scope} {e c : Option Expr} {m : S} (h : cRaise sc e c = some m) : ∃ x p z j p2 p3, e = some (.Call (.Name x p) [.Constant (.str z) j p2] [] p3) ∧ c = none ∧ m = .raise x ∧ okName x = true ∧ glB sc x = true := by
  unfold cRaise at h
  split at h
  · split at h
    · rename_i hc
      simp only [Bool.and_eq_true] at hc
      cases h
      exact ⟨_, _, _, _, _, _, rfl, rfl, rfl, hc.1, hc.2⟩
    · cases h
  · cases h
/-- try .. except X as y: .. -/
def cTry (N : List Str) (f g : List Stmt → Option Ss) (tp : Md) (sc : Scope) (body : List Stmt) : List ExceptHandler → List Stmt → List Stmt → Option S
  | [.ExceptHandler (some (.Name x _)) (some y) (b₀ :: suite) _], [], [] => if tp.c && okName x && glB sc x && decide (sc.names.lookup y = some .local) then
      (match ixOf N y, f body, g (b₀ :: suite) with | some i, some a, some b => some (.tryAs x i a b) | _, _, _ => none) else none
  | _, _, _ => none
def cTryO (f g : List Stmt → Option Ss) (tp : Md) (sc : Scope) (body : List Stmt) : List ExceptHandler → List Stmt → List Stmt → Option S
  | [.ExceptHandler (some (.Name x _)) none (b₀ :: suite) _], [], [] => if tp.c && okName x && glB sc x then
      (match f body, g (b₀ :: suite) with | some a, some b => some (.tryOn x a b) | _, _ => none) else none
  | _, _, _ => none
theorem cTryO_eq {f g : List Stmt → Option Ss} {tp : Md} {sc : Scope} {body : List Stmt} {hs : List ExceptHandler} {oe fb : List Stmt} {m : S} (h : cTryO f g tp sc body hs oe fb = some m) :
    ∃ x np b₀ suite p a b, hs = [.ExceptHandler (some (.Name x np)) none (b₀ :: suite) p] ∧ oe = [] ∧ fb = [] ∧ tp.c = true ∧ okName x = true ∧ glB sc x = true ∧ f body = some a ∧ g (b₀ :: suite) = some b ∧ m = .tryOn x a b := by
  unfold cTryO at h
  split at h
  · split at h
    · rename_i hc
      simp only [Bool.and_eq_true, decide_eq_true_eq] at hc
      obtain ⟨⟨hcm, ho⟩, hgl⟩ := hc
      split at h
      · rename_i h2 h3
        cases h
        exact ⟨_, _, _, _, _, _, _, rfl, rfl, rfl, hcm, ho, hgl, h2, h3, rfl⟩
      · cases h
    · cases h
  · cases h
theorem cTry_eq {N : List Str} {f g : List Stmt → Option Ss} {tp : Md} {sc : Scope} {body : List Stmt} {hs : List ExceptHandler} {oe fb : List Stmt} {m : S} (h : cTry N f g tp sc body hs oe fb = some m) :
    ∃ x np y b₀ suite p i a b, hs = [.ExceptHandler (some (.Name x np)) (some y) (b₀ :: suite) p] ∧ oe = [] ∧ fb = [] ∧ tp.c = true ∧ okName x = true ∧ glB sc x = true ∧ sc.names.lookup y = some .local ∧ ixOf N y = some i ∧ f body = some a ∧ g (b₀ :: suite) = some b ∧ m = .tryAs x i a b := by
  unfold cTry at h
  split at h
  · split at h
    · rename_i hc
      simp only [Bool.and_eq_true, decide_eq_true_eq] at hc
      obtain ⟨⟨⟨hcm, ho⟩, hgl⟩, hly⟩ := hc
      split at h
      · rename_i h1 h2 h3
        cases h
        exact ⟨_, _, _, _, _, _, _, _, _, rfl, rfl, rfl, hcm, ho, hgl, hly, h1, h2, h3, rfl⟩
      · cases h
    · cases h
  · cases h
mutual
def cS (N : List Str) : Nat → Md → Scope → Stmt → Option S
  | 0, _, _, _ => none
  | n + 1, tp, sc, st => match st with
    | .Assign [tg] e _ => (match tg with
      | .Name x px => if compB e then (if lcB sc x px e && tp.c then (match ixOf N x, cE N n tp sc e with | some i, some v => some (.set i v) | _, _ => none) else none)
          else (match nmIx N sc true tg, cE N n tp sc e with | some i, some v => some (.set i v) | _, _ => none)
      | .Attribute o f _ => (match cE N n tp sc o, cE N n tp sc e with | some a, some v => some (.setFld a f v) | _, _ => none)
      | .Subscript o i _ => if slB i then none else (match cE N n tp sc o, cE N n tp sc i, cE N n tp sc e with | some a, some b, some v => some (.setSub a b v) | _, _, _ => none)
      | .Tuple ts _ _ => (match e with
        | .Tuple vs _ _ => (match ts, vs with
          | [.Name x px, .Name y py], [a, b] => if parB sc x y px py [a, b] && tp.c then (match ixOf N x, ixOf N y, cE N n tp sc a, cE N n tp sc b with | some i, some j, some v, some w => some (.par i j v w) | _, _, _, _ => none)
              else if unpB sc ts vs && tp.c then (match cTts (cE N n tp sc) (nmIx N sc true) ts, cE N n tp sc e with | some t, some v => some (.setTup t v) | _, _ => none) else none
          | _, _ => if unpB sc ts vs && tp.c then (match cTts (cE N n tp sc) (nmIx N sc true) ts, cE N n tp sc e with | some t, some v => some (.setTup t v) | _, _ => none) else none)
        | _ => if tp.c then (match cStar (nmIx N sc true) ts, cE N n tp sc e with
          | some (i, j), some v => some (.unpS i j v)
          | none, some v => (match cTts (cE N n tp sc) (nmIx N sc true) ts with | some t => some (.setTup t v) | _ => none)
          | _, _ => none) else none)
      | _ => none)
    | .AugAssign tg op e _ => (match tg with
      | .Name _ _ => (match nmIx N sc true tg, cE N n tp sc e with | some i, some v => some (.aug i op v) | _, _ => none)
      | .Attribute o f _ => (match cE N n tp sc o, cE N n tp sc e with | some a, some v => some (.augFld a f op v) | _, _ => none)
      | _ => none)
    | .Return e _ => (match e with | some e => (cE N n tp sc e).map .ret | none => some .retN)
    | .Expr e _ => if strB e then some .doc else if compB e then none else (cE N n tp sc e).map .exp
    | .Pass _ => some .pass
    | .Break _ => some .brk
    | .Continue _ => some .cont
    | .If t a b _ => (match cT N n tp sc t, cSs N n tp sc a, cSs N n tp sc b with | some x, some y, some z => some (.ifs x y z) | _, _, _ => none)
    | .While t a [] _ => (match cT N n tp sc t, cSs N n tp sc a with | some x, some y => some (.whl x y) | _, _ => none)
    | .For tg it a [] _ => if !tp.c then none else (match cTg N sc true tg, cI (cE N n tp sc) sc tg it, cSs N n tp sc a with | some g, some i, some b => some (.fors g i b) | _, _, _ => none)
    | .Try body hs oe fb _ => (match cTry N (cSs N n .no sc) (cSs N n .qt sc) tp sc body hs oe fb with | some m => some m | none => cTryO (cSs N n .no sc) (cSs N n .qt sc) tp sc body hs oe fb)
    | .Raise e c _ => if !tp.c then none else (match cRaise sc e c with | some m => some m | none => some .dead)
    | _ => none
def cSs (N : List Str) : Nat → Md → Scope → List Stmt → Option Ss
  | 0, _, _, _ => none
  | n + 1, tp, sc, sts => match sts with
    | [] => some .nil
    | st :: r => (match cS N n tp sc st, cSs N n tp sc r with | some a, some b => some (.cons a b) | _, _ => none)
end

section
variable {X : Cx} {ta : List (Addr × Str)} {mm : MT} {xc : XC} {tp : Md}
theorem swaps_at {e o : Expr} {f : Str} {p : Pos} {l : Nat} {env : Env} : swapsWith e (some (.Attribute o f p)) l env = pure false := by cases e <;> rfl
theorem swaps_sub {e o i : Expr} {p : Pos} {l : Nat} {env : Env} : swapsWith e (some (.Subscript o i p)) l env = pure false := by cases e <;> rfl
theorem swaps_tup {e : Expr} {es : List Expr} {k : Nat} {p : Pos} {l : Nat} {env : Env} : swapsWith e (some (.Tuple es k p)) l env = pure false := by cases e <;> rfl
theorem sole_tup {e : Expr} {es : List Expr} {k : Nat} {p : Pos} {l : Nat} {env : Env} : swapsWithSole [.Tuple es k p] e l env = pure false := by cases e <;> rfl
theorem sole_sub {e o i : Expr} {p : Pos} {l : Nat} {env : Env} : swapsWithSole [.Subscript o i p] e l env = pure false := by cases e <;> rfl
theorem stores_nm {e : Expr} {x : Str} {p : Pos} {env : Env} : swappedStores [.Name x p] e env = pure none := by cases e <;> rfl
theorem stores_sub {e o i : Expr} {p : Pos} {env : Env} : swappedStores [.Subscript o i p] e env = pure none := by cases e <;> rfl
theorem stores_nt {e : Expr} {ts : List Expr} {k : Nat} {p : Pos} {env : Env} (h : tupB e = false) : swappedStores [.Tuple ts k p] e env = pure none := by
  cases e <;> first | rfl | cases h
theorem fm_short {f : Expr → Option Str} {e : Expr} : ∀ {ts : List Expr}, e ∈ ts → f e = none → ((ts.filterMap f).length != ts.length) = true := by
  have lt : ∀ {ts : List Expr}, e ∈ ts → f e = none → (ts.filterMap f).length < ts.length := by
    intro ts
    induction ts with
    | nil => intro he; cases he
    | cons a r ih =>
      intro he hn
      rcases List.mem_cons.mp he with rfl | hm
      · rw [List.filterMap_cons_none hn]
        exact Nat.lt_succ_of_le (List.length_filterMap_le _ _)
      · have := ih hm hn
        rw [List.filterMap_cons]
        split
        · exact Nat.lt_succ_of_lt this
        · simpa using this
  intro ts he hn
  have := lt he hn
  simp only [bne_iff_ne, ne_eq]
  omega
theorem stores_unp {ts vs : List Expr} {k k2 : Nat} {p p2 : Pos} {env : Env} (h : unpB env.scope ts vs = true) : swappedStores [.Tuple ts k p] (.Tuple vs k2 p2) env = pure none := by
  unfold unpB at h
  simp only [Bool.or_eq_true] at h
  unfold swappedStores
  simp only [pure_bind]
  rcases h with (h | h) | h
  · have e : (!(ts.length == 2 || ts.length == 3) || vs.length != ts.length || env.blockKind != .function) = true := by rw [h]; rfl
    rw [if_pos e] <;> rfl
  · split
    · rfl
    · split
      · rfl
      · obtain ⟨e, he, hb⟩ := List.any_eq_true.mp h
        rw [if_pos]
        simp only [Bool.or_eq_true]
        refine .inl (fm_short he ?_)
        cases e with
        | Name x q =>
          simp only [decide_eq_true_eq] at hb
          have : (env.kindOf x == some .local) = false := by
            show (env.scope.names.lookup x == some NameKind.local) = false
            simpa using hb
          simp [this]
        | _ => rfl
  · split
    · rfl
    · split
      · rfl
      · split
        · rfl
        · first | rfl | (rw [if_pos h] <;> rfl)
theorem stores_par {x y : Str} {px py p p2 : Pos} {a b : Expr} {k k2 : Nat} {env : Env} (h : parB env.scope x y px py [a, b] = true) : swappedStores [.Tuple [.Name x px, .Name y py] k p] (.Tuple [a, b] k2 p2) env = pure (some [x, y]) := by
  unfold parB at h
  simp only [Bool.and_eq_true, decide_eq_true_eq, Bool.not_eq_true'] at h
  obtain ⟨⟨⟨⟨⟨⟨⟨h1, h2⟩, h3⟩, h4⟩, h5⟩, h6⟩, h7⟩, h8⟩ := h
  have hbk : env.blockKind = .function := by unfold Env.blockKind; rw [h1]; rfl
  have kx : env.kindOf x = some .local := h2
  have ky : env.kindOf y = some .local := h3
  have hst : ([a, b].any fun | .Starred .. => true | _ => false) = false := by
    simp only [List.all_cons, List.all_nil, Bool.and_true, Bool.and_eq_true] at h6
    obtain ⟨ha, hb⟩ := h6
    have ns : ∀ e : Expr, nsB e = true → (match e with | .Starred .. => true | _ => false) = false := fun e he => by cases e <;> first | rfl | cases he
    rw [List.any_cons, List.any_cons, List.any_nil, ns a ha, ns b hb] <;> rfl
  have hxy : x ≠ y := by simpa using h5
  have he : [x, y].eraseDups = [x, y] := by
    simp [List.eraseDups_cons, Ne.symm hxy]
  unfold swappedStores
  simp only [pure_bind]
  rw [if_neg (by simp [hbk])]
  split
  · rename_i hh
    exact absurd hh (Bool.eq_false_iff.mp hst)
  simp only [List.filterMap_cons, List.filterMap_nil, List.head?_cons, Option.map_some, Option.getD_some, Expr.pos, kx, ky, h4]
  simp [he, h7, h8]
theorem p_setd (hu : X.A.units + 65 < cLine) : PSet X (fun x y v H Q => ∃ p H4, x = .ref p ∧ DPut H p y v H4 ∧ Q H4) := by
  intro pins s σ H o i v ov iv u Q I ro ri rv q
  obtain ⟨p, H4, rfl, g, q⟩ := q
  obtain rfl : ov = Value.ref p := ro
  exact d_setItem (by omega) I g ri rv fun s' I' => ⟨H4, I', q⟩
theorem PSetor {t t' : TSet} (h : PSet X t) (h' : PSet X t') : PSet X (fun x y v H Q => t x y v H Q ∨ t' x y v H Q) := fun pins s σ H o i v ov iv u Q I ro ri rv q =>
  q.elim (h pins s σ H o i v ov iv u Q I ro ri rv) (h' pins s σ H o i v ov iv u Q I ro ri rv)
theorem p_aug (op : Operator) : PIp X op (rAug op) := by
  intro pins s σ H x y v u Q I rx ry q
  cases op
  case Add =>
    rcases q with q | q
    · exact ip_add pins s σ H x y v u Q I rx ry q
    · exact iop_add_str pins s σ H x y v u Q I rx ry q
  case Sub => exact ip_sub pins s σ H x y v u Q I rx ry q
  all_goals exact q.elim
theorem p_augF (op : Operator) : InOp X op (rAugF op) := by
  cases op
  case Add => exact in_add
  case Sub => exact in_sub
  all_goals
    intro pins s σ H x y v u Q I rx ry q
    exact q.elim
theorem asg_sub {o i : Expr} {pos : Pos} {env : Env} (h : slB i = false) : ∀ v, assign (.Subscript o i pos) env v = (do
      let ov ← holding [v] (eval o env)
      let iv ← holding [v, ov] (eval i env)
      standAt pos
      holding [v, ov, iv] (setItem ov iv v)
      release [v, ov, iv] []) := fun v => by
  cases i <;> first | rfl | cases h
theorem pgs_tts {k : Nat} {sc : Scope} {N : List Str} {W : WX} (g : Gd ta mm xc tp k sc N W X) (T : TgOk X sc true) {f : Expr → Option E} (hf : ∀ e m, f e = some m → PE X e (wE (rx X ta mm xc) k m W)) : ∀ {es : List Expr} {ts : Tts}, cTts f (nmIx X.N sc true) es = some ts →
    PGs X es (fun vs σ H Q => vs.length = ts.len ∧ wTts (rx X ta mm xc) k ts W vs σ H Q) ∧ (assignEach es X.env).length = ts.len ∧ (assignEach es X.env).findIdx? (·.1) = none
  | [], ts, h => by
    unfold cTts at h
    cases h
    refine ⟨⟨fun pins s σ H vs us Q I r q => ?_⟩, rfl, rfl⟩
    obtain ⟨q1, q2⟩ := q
    cases vs with
    | nil => exact pgs_nil.run pins s σ H [] us Q I r ⟨rfl, q2⟩
    | cons _ _ => cases q1
  | e :: r, ts, h => by
    have name : ∀ {e : Expr}, (match nmIx X.N sc true e, cTts f (nmIx X.N sc true) r with | some i, some ts => some (Tts.nm i ts) | _, _ => none) = some ts →
        PGs X (e :: r) (fun vs σ H Q => vs.length = ts.len ∧ wTts (rx X ta mm xc) k ts W vs σ H Q) ∧ (assignEach (e :: r) X.env).length = ts.len ∧ (assignEach (e :: r) X.env).findIdx? (·.1) = none := by
      intro e h
      split at h
      · rename_i i ts' h1 h2
        cases h
        obtain ⟨p1, p2, p3⟩ := pgs_tts g T hf h2
        obtain ⟨x, p, rfl, _, _⟩ := nmIx_get h1
        refine ⟨⟨fun pins s σ H vs us Q I r q => ?_⟩, by show ((assignEach _ X.env).length + 1) = _; rw [p2] <;> rfl, by show ((false, _) :: assignEach _ X.env).findIdx? (·.1) = none; rw [List.findIdx?_cons, p3] <;> rfl⟩
        obtain ⟨q1, q2⟩ := q
        cases vs with
        | nil => cases q1
        | cons v vs => exact (pgs_cons (pg_nm T g.nd h1) p1).run pins s σ H _ us Q I r ⟨v, vs, rfl, by simpa [Tts.len] using q1, q2⟩
      · cases h
    cases e with
    | Subscript a i p =>
      unfold cTts at h
      split at h
      · cases h
      · rename_i hs
        split at h
        · rename_i x y ts' h1 h2 h3
          cases h
          obtain ⟨p1, p2, p3⟩ := pgs_tts g T hf h3
          have hg : PG X (.Subscript a i p) (gSub (fun σ H S => wE (rx X ta mm xc) k x W σ H S) (fun σ H S => wE (rx X ta mm xc) k y W σ H S) (fun x y v H Q => rSetL x y v H Q ∨ ∃ p H4, x = .ref p ∧ DPut H p y v H4 ∧ Q H4)) :=
            pg_sub (hf _ _ h1) (hf _ _ h2) (PSetor set_list (p_setd (g.u65))) (asg_sub (by simpa using hs))
          refine ⟨⟨fun pins s σ H vs us Q I r q => ?_⟩, by show ((assignEach _ X.env).length + 1) = _; rw [p2] <;> rfl, by show ((false, _) :: assignEach _ X.env).findIdx? (·.1) = none; rw [List.findIdx?_cons, p3] <;> rfl⟩
          obtain ⟨q1, q2⟩ := q
          cases vs with
          | nil => cases q1
          | cons v vs =>
            have hl : vs.length = ts'.len := by simpa [Tts.len] using q1
            refine (pgs_cons hg p1).run pins s σ H _ us Q I r ⟨v, vs, rfl, ?_⟩
            have q2 : wE (rx X ta mm xc) k x W σ H fun x H2 => wE (rx X ta mm xc) k y W σ H2 fun y H3 => rSetL x y v H3 (fun H4 => wTts (rx X ta mm xc) k ts' W vs σ H4 Q) ∨ ∃ p H4, x = .ref p ∧ DPut H3 p y v H4 ∧ wTts (rx X ta mm xc) k ts' W vs σ H4 Q := q2
            simp only [hl, true_and]
            exact q2
        · cases h
    | _ =>
      unfold cTts at h
      exact name h
theorem pg_tts {k : Nat} {sc : Scope} {N : List Str} {W : WX} (g : Gd ta mm xc tp k sc N W X) (hcm : X.calm = true) (T : TgOk X sc true) {f : Expr → Option E} (hf : ∀ e m, f e = some m → PE X e (wE (rx X ta mm xc) k m W)) {es : List Expr} {ts : Tts} {j : Nat} {pos : Pos} (h : cTts f (nmIx X.N sc true) es = some ts) :
    PG X (.Tuple es j pos) (fun v σ H Q => ∃ a xs, v = .ref a ∧ (SqT X.K H a xs ∨ SqL X.K H a xs) ∧ xs.length = ts.len ∧ wTts (rx X ta mm xc) k ts W xs σ H Q) := by
  obtain ⟨p1, p2, p3⟩ := pgs_tts g T hf h
  refine ⟨fun pins s σ H v u Q I r q => ?_⟩
  obtain ⟨a, xs, rfl, ht, hl, q⟩ := q
  rcases ht with ht | ht
  · exact (pg_tup (n := ts.len) hcm p1 p2 p3).run pins s σ H _ u Q I r ⟨a, xs, rfl, ht, hl, hl, q⟩
  · exact (pg_lst (n := ts.len) hcm p1 p2 p3).run pins s σ H _ u Q I r ⟨a, xs, rfl, ht, hl, hl, q⟩
/-- x, *y = a list -/
theorem pg_star {sc0 : Scope} {i j : Nat} {ea eb : Expr} {p2 pos : Pos} {k : Nat} (T : TgOk X sc0 true) (nd : X.N.Nodup) (hc : X.calm = true) (h1 : nmIx X.N sc0 true ea = some i) (h2 : nmIx X.N sc0 true eb = some j) :
    PG X (.Tuple [ea, .Starred eb p2] k pos) (fun v σ H Q => ∃ p x rest, v = .ref p ∧ SqL X.K H p (x :: rest) ∧ ∀ q, H q = none → Q ((σ.set i (some x)).set j (some (.ref q))) (upd H q (.lst rest))) := by
  refine ⟨fun pins s σ H v u Q I r q => ?_⟩
  obtain ⟨p, x, rest, rfl, hs, q⟩ := q
  obtain rfl : u = Value.ref p := r
  obtain ⟨its, rv, pl, hz⟩ := I.list hs
  cases rv with
  | @cons _ u0 _ ur rx rr =>
    obtain ⟨xx, xp, rfl, _⟩ := nmIx_get h1
    obtain ⟨yy, yp, rfl, _⟩ := nmIx_get h2
    rw [PyProof.Rows.assign_Tuple]
    refine wpAny_bind (wpAny_standAt ?_)
    unfold unpack
    have e0 : assignEach [Expr.Name xx xp, .Starred (.Name yy yp) p2] X.env = [(false, assign (.Name xx xp) X.env), (true, assign (.Name yy yp) X.env)] := rfl
    rw [e0]
    have lr : rest.length = ur.length := rr.length
    refine wpAny_bind (wpAny_holding (unpack_star (I.ok.hd hc) pl.isList (by rw [← lr]; simpa using hz) fun h' tk gs hgs kp => ?_))
    subst hgs
    have I0 : Inv X pins σ H { s with heap := h', toks := tk } := I.kept (t' := tk) kp
    have hn : H h'.objs.size = none := I0.hok.fresh (Nat.le_refl _)
    have I1 : Inv X pins σ (upd H h'.objs.size (.lst rest)) { s with heap := h'.push ({ cls := .type "list", data := .seq ur.toArray } : Obj), toks := tk } :=
      I0.laid (t' := tk) (fun b o e => Heap.get?_push_of_some _ e) (Nat.le_refl _) ⟨by simpa using Nat.le_of_succ_le hz, ur, 0, rr, Heap.get?_push_size _ rfl⟩
    refine (pgs_cons (pg_nm T nd h1) (pgs_cons (pg_nm T nd h2) pgs_nil)).run pins _ σ _ [x, .ref h'.objs.size] [u0, .ref h'.objs.size] Q I1 (.cons rx (.cons rfl .nil)) ?_
    exact ⟨x, [.ref h'.objs.size], rfl, .ref h'.objs.size, [], rfl, rfl, q _ hn⟩
/-- a def's own frame runs -/
structure DefX (X : Cx) : Prop where
  fn : ∀ x, X.fn x = true
  stk : X.stack = X.env :: X.outer
  frm : X.env.frame = some X.env.locals
theorem isH_suite {X : Cx} {a : Addr} {oe : Obj} {cls : Value} {d : Option Addr} {pn : List (Addr × Obj)} (hz : Zc cls d oe) (hf : ∃ vs, oe.data = .fields vs) : CallR (X.suite a ((a, oe) :: pn)) (.builtin "isinstance") (rIsH X.K (some (a, cls, d))) := by
  intro pins s σ H xs us Q I r q
  obtain ⟨a', C, e, hc, q⟩ := q
  cases e
  exact call_isE hc hz hf pins s σ H xs us Q I r q
/-- THE READING HOLDS: of statements -/
theorem sS_all (ta : List (Addr × Str)) (mm : MT) (N : List Str) : ∀ n, (∀ (xc : XC) (tp : Md) (sc : Scope) (st : Stmt) (m : S), cS N n tp sc st = some m → ∀ (k : Nat) (W : WX) (X : Cx), Gd ta mm xc tp k sc N W X → DefX X → PS X st (fun D σ H => wS (rx X ta mm xc) k m W D σ H)) ∧
    (∀ (xc : XC) (tp : Md) (sc : Scope) (st : List Stmt) (m : Ss), cSs N n tp sc st = some m → ∀ (k : Nat) (W : WX) (X : Cx), Gd ta mm xc tp k sc N W X → DefX X → PSs X st (fun D σ H => wSs (rx X ta mm xc) k m W D σ H)) := by
  intro n
  induction n with
  | zero => exact ⟨fun _ _ _ _ _ h => (by unfold cS at h; cases h), fun _ _ _ _ _ h => (by unfold cSs at h; cases h)⟩
  | succ n ih =>
    obtain ⟨ihS, ihB⟩ := ih
    refine ⟨fun xc tp sc st m h k W X g dx => ?_, fun xc tp sc st m h k W X g dx => ?_⟩
    all_goals have fn := dx.fn
    · have hf : ∀ e m, cE N n tp sc e = some m → PE X e (wE (rx X ta mm xc) k m W) := fun e m h => (sE_all ta mm xc N n).1 tp sc e m h k W X g
      have hf0 : ∀ e m, cE N n tp sc e = some m → PE X e (wE (rx X ta mm xc) k m W0) := fun e m h => (sE_all ta mm xc N n).1 tp sc e m h k W0 X g.w0
      have ht : ∀ e m, cT N n tp sc e = some m → PT X e (wT (rx X ta mm xc) k m W) := fun e m h => ((sE_all ta mm xc N n).2 tp sc e m h k W X g).1
      have T : TgOk X sc true := fun x => by rw [g.sc]; exact ⟨fun h => h, fun _ h => ⟨h, fn x⟩⟩
      have hN : X.N = N := g.N
      have hu := g.u65
      have nm : ∀ {e : Expr} {i : Nat}, nmIx N sc true e = some i → ∃ x p, e = .Name x p ∧ X.N[i]? = some x ∧ Loc X.env.scope x := fun {e i} h => by
        obtain ⟨x, p, he, h1, h2⟩ := nmIx_get h
        refine ⟨x, p, he, by rw [hN]; exact h1, ?_⟩
        rw [g.sc]
        rcases h2 with h2 | ⟨_, h2⟩
        · exact .inl h2
        · exact .inr h2
      have tts : ∀ {ts : List Expr} {e : Expr} {t : Tts} {v : E} {j : Nat} {p pos : Pos}, tp.c = true → cTts (cE N n tp sc) (nmIx N sc true) ts = some t → cE N n tp sc e = some v → swappedStores [.Tuple ts j p] e X.env = pure none →
          PS X (.Assign [.Tuple ts j p] e pos) (fun D σ H => wS (rx X ta mm xc) k (.setTup t v) W D σ H) := fun {ts e t v j p pos} hcm h1 h2 h3 => by
        exact ps_asg (hf _ _ h2) (pg_tts g (g.calm hcm) T hf (by rw [hN]; exact h1)) sole_tup h3
      unfold cS at h
      cases st with
      | Assign tgs e pos =>
        cases tgs with
        | nil => cases h
        | cons tg r =>
          cases r with
          | cons _ _ => cases h
          | nil =>
            dsimp only at h
            cases tg with
            | Name x px =>
              dsimp only at h
              split at h
              · split at h
                · rename_i hl
                  split at h
                  · rename_i i v h1 h2
                    cases h
                    obtain ⟨hl, _⟩ := Bool.and_eq_true_iff.mp hl
                    unfold lcB at hl
                    cases e with
                    | ListComp elt gens scope p =>
                      simp only [Bool.and_eq_true, decide_eq_true_eq, Bool.not_eq_true'] at hl
                      obtain ⟨⟨⟨l1, l2⟩, l3⟩, l4⟩ := hl
                      have l2' : X.env.scope.names.lookup x = some .local := by rw [g.sc]; exact l2
                      -- as the expression's own case
                      cases n with
                      | zero => unfold cE at h2; cases h2
                      | succ n =>
                        unfold cE at h2
                        rcases gens with _ | ⟨⟨tg, iter, ifs, asy⟩, _ | ⟨_, _⟩⟩
                        · cases h2
                        · dsimp only at h2
                          split at h2
                          · rename_i hc
                            simp only [Bool.and_eq_true, decide_eq_true_eq, Bool.not_eq_true'] at hc
                            obtain ⟨⟨⟨hasy, hblk⟩, hset⟩, hcm⟩ := hc
                            subst hasy
                            split at h2
                            · rename_i it gg tt x' q1 q2 q3 q4
                              cases h2
                              have hf1 : ∀ e m, cE N n tp sc e = some m → PE X e (wE (rx X ta mm xc) k m W0) := fun e m h => (sE_all ta mm xc N n).1 tp sc e m h k W0 X g.w0
                              have ok : BlkOk X.N X.env.scope scope (ownOf N (tgNames tg)) := by
                                rw [g.N, g.sc]
                                exact blkOk_by hblk
                              have one : PS X (.Assign [.Name x px] (.ListComp elt [⟨tg, iter, ifs, 0⟩] scope p) pos) (tAsg (tLc (fun σ H S => wI (rx X ta mm xc) k it W0 σ H S) (gTg (rx X ta mm xc).K gg) (fun σ H S => wT (rx X ta mm xc) k tt W0 σ H S) (fun σ H S => wE (rx X ta mm xc) k x' W0 σ H S) ((ownOf N (tgNames tg)).map (·.2))) (gName i)) := by
                                refine ps_setLc (g.calm hcm) g.nd (by rw [hN]; exact ixOf_get h1) l2' (sw_true (by rw [g.sc]; exact l1) l2' l3 l4) (pi_of g.w0 hf1 q1) ok (fun s H C cl fp => ?_) (fun s H C cl fp => ?_) (fun s H C cl fp => ?_) (fold_ns hset)
                                · exact pg_tg (tg_blk s H C cl fp) g.nd (g.calm hcm) (by rw [show (X.blk s H scope (compEnvC scope cl C X.env) fp).N = N from g.N]; exact q2)
                                · have gb := g.blk hcm scope s H C cl fp
                                  split at q3
                                  · cases q3
                                    exact pts_nil
                                  · exact pts_one ((sE_all ta mm xc N n).2 _ _ _ _ q3 k W0 _ gb).1
                                  · cases q3
                                · exact (sE_all ta mm xc N n).1 _ _ _ _ q4 k W0 _ (g.blk hcm scope s H C cl fp)
                              exact PSor one (ps_lock one)
                            · cases h2
                          · cases h2
                        · cases h2
                    | _ => cases hl
                  · cases h
                · cases h
              · rename_i hc
                split at h
                · rename_i i v h1 h2
                  cases h
                  obtain ⟨x', p', he, hi, hl⟩ := nm h1
                  cases he
                  exact ps_set g.nd hi hl (hf _ _ h2) (swaps_ns (by simpa using hc)) (.inl (fn _))
                · cases h
            | Attribute o f p =>
              dsimp only at h
              split at h
              · rename_i a v h1 h2
                cases h
                exact ps_fld (hf _ _ h1) (hf _ _ h2) swaps_at
              · cases h
            | Subscript o i p =>
              dsimp only at h
              split at h
              · cases h
              · rename_i hs
                split at h
                · rename_i a b v h1 h2 h3
                  cases h
                  refine PSi (ps_asg (hf _ _ h3) (pg_sub (hf _ _ h1) (hf _ _ h2) (PSetor set_list (p_setd hu)) (asg_sub (by simpa using hs))) sole_sub stores_sub) fun D σ H q => ?_
                  exact q
                · cases h
            | Tuple ts j p =>
              dsimp only at h
              split at h
              · rename_i vs k2 p2
                split at h
                · rename_i x px y py a b
                  split at h
                  · rename_i hp
                    split at h
                    · rename_i i j' v w h1 h2 h3 h4
                      cases h
                      obtain ⟨hp, hcm⟩ := Bool.and_eq_true_iff.mp hp
                      have hp' := hp
                      unfold parB at hp
                      simp only [Bool.and_eq_true, decide_eq_true_eq, Bool.not_eq_true', List.all_cons, List.all_nil, Bool.and_true] at hp
                      obtain ⟨⟨⟨⟨⟨⟨⟨c1, c2⟩, c3⟩, c4⟩, c5⟩, c6⟩, c7⟩, c8⟩ := hp
                      have hij : i ≠ j' := by
                        intro e
                        have e1 := ixOf_get h1
                        have e2 := ixOf_get h2
                        rw [e, e2] at e1
                        cases e1
                        simp at c5
                      refine PSi (ps_par (g.calm hcm) g.nd (by rw [hN]; exact ixOf_get h1) (by rw [hN]; exact ixOf_get h2) hij (by rw [g.sc]; exact c2) (by rw [g.sc]; exact c3) (pa_cons (hf _ _ h3) (pa_cons (hf _ _ h4) pa_nil (starEach_ns c6.2)) (starEach_ns c6.1)) (stores_par (by rw [g.sc]; exact hp')) sole_tup) fun D σ H q => ?_
                      refine (show wE (rx X ta mm xc) k v W σ H fun x H1 => wE (rx X ta mm xc) k w W σ H1 fun y H2 => ∃ a b, [x, y] = [a, b] ∧ D.nx ((σ.set i (some a)).set j' (some b)) H2 from ?_)
                      have mono : ∀ x : V, (fun (y : V) (H2 : Hp) => D.nx ((σ.set i (some x)).set j' (some y)) H2) = fun y H2 => ∃ a b, [x, y] = [a, b] ∧ D.nx ((σ.set i (some a)).set j' (some b)) H2 := by
                        intro x
                        funext y H2
                        apply propext
                        constructor
                        · intro z
                          exact ⟨x, y, rfl, z⟩
                        · rintro ⟨a, b, e, z⟩
                          cases e
                          exact z
                      simp only [← mono]
                      exact q
                    · cases h
                  · split at h
                    · rename_i hun
                      split at h
                      · rename_i t v h1 h2
                        cases h
                        exact tts (Bool.and_eq_true_iff.mp hun).2 h1 h2 (stores_unp (by rw [g.sc]; exact (Bool.and_eq_true_iff.mp hun).1))
                      · cases h
                    · cases h
                · split at h
                  · rename_i hun
                    split at h
                    · rename_i t v h1 h2
                      cases h
                      exact tts (Bool.and_eq_true_iff.mp hun).2 h1 h2 (stores_unp (by rw [g.sc]; exact (Bool.and_eq_true_iff.mp hun).1))
                    · cases h
                  · cases h
              · rename_i hne
                split at h
                · rename_i hcm
                  have hnt : tupB e = false := by cases e <;> first | rfl | exact absurd rfl (hne _ _ _)
                  split at h
                  · rename_i i j' v h1 h2
                    cases h
                    obtain ⟨a, b, p2, rfl, g1, g2⟩ := cStar_eq h1
                    exact ps_asg (hf _ _ h2) (pg_star T g.nd (g.calm hcm) (by rw [hN]; exact g1) (by rw [hN]; exact g2)) sole_tup (stores_nt hnt)
                  · rename_i v h1 h2
                    split at h
                    · rename_i t h3
                      cases h
                      exact tts hcm h3 h2 (stores_nt hnt)
                    · cases h
                  · cases h
                · cases h
            | _ => cases h
      | AugAssign tg op e pos =>
        cases tg with
        | Name x px =>
          dsimp only at h
          split at h
          · rename_i i v h1 h2
            cases h
            obtain ⟨x', p', he, hi, hl⟩ := nm h1
            cases he
            exact ps_aug g.nd hi hl (hf _ _ h2) (p_aug op) (.inl (fn _))
          · cases h
        | Attribute o f p =>
          dsimp only at h
          split at h
          · rename_i a v h1 h2
            cases h
            exact ps_fldaug (hf _ _ h1) (hf _ _ h2) (p_augF op)
          · cases h
        | _ => cases h
      | Return e pos =>
        cases e with
        | none =>
          cases h
          exact ps_retN
        | some e =>
          dsimp only at h
          obtain ⟨x, h1, h2⟩ := Option.map_eq_some_iff.mp h
          cases h2
          exact ps_ret (hf _ _ h1)
      | Expr e pos =>
        dsimp only at h
        split at h
        · rename_i hs
          cases h
          unfold strB at hs
          split at hs
          · exact ps_doc
          · cases hs
        · split at h
          · cases h
          · rename_i hc
            obtain ⟨x, h1, h2⟩ := Option.map_eq_some_iff.mp h
            cases h2
            exact ps_expr (hf _ _ h1) (swaps_ns (by simpa using hc))
      | Pass pos =>
        cases h
        exact ps_pass
      | Break pos =>
        cases h
        exact ps_break
      | Continue pos =>
        cases h
        exact ps_continue
      | If t a b pos =>
        dsimp only at h
        split at h
        · rename_i x y z h1 h2 h3
          cases h
          exact ps_if (ht _ _ h1) (ihB _ _ _ _ _ h2 k W X g dx) (ihB _ _ _ _ _ h3 k W X g dx)
        · cases h
      | While t a b pos =>
        cases b with
        | cons _ _ => cases h
        | nil =>
          dsimp only at h
          split at h
          · rename_i x y h1 h2
            cases h
            exact ps_while g.own (ht _ _ h1) (ihB _ _ _ _ _ h2 k W X g dx)
          · cases h
      | For tg it a b pos =>
        cases b with
        | cons _ _ => cases h
        | nil =>
          dsimp only at h
          split at h
          · cases h
          rename_i hcm
          have hcm : tp.c = true := by simpa using hcm
          split at h
          · rename_i gg i b h1 h2 h3
            cases h
            have hset : ∀ x, foldedSetIterable it X.env x = pure x := by
              refine fold_ns ?_
              cases it <;> first | rfl | (unfold cI at h2; simp [setB] at h2)
            have hpg := pg_tg T g.nd (g.calm hcm) (by rw [hN]; exact h1)
            exact PSor (ps_for g.own (g.calm hcm) (pi_of g hf h2) hpg (ihB _ _ _ _ _ h3 k W X g dx) hset) (ps_lock (ps_for g.own (g.calm hcm) (pi_of g.w0 hf0 h2) hpg (ihB _ _ _ _ _ h3 k W0 X g.w0 dx) hset))
          · cases h
      | Try body hs oe fb pos =>
        dsimp only at h
        split at h
        · rename_i m' hh
          cases h
          obtain ⟨x, np, y, b₀, suite, pos', i, a, b, rfl, rfl, rfl, hcm, ho, hgl, hly, h1, h2, h3, rfl⟩ := cTry_eq (N := N) hh
          obtain ⟨hd, _, _⟩ := okName_d ho
          refine ⟨fun pins s σ H D I q => ?_⟩
          obtain ⟨c, hm, q⟩ := q
          refine (ps_try_as (tb := fun W D σ H => wSs (rx X ta mm xc) k a W D σ H) (ts := fun p cls d D σ H => wSs (rx X ta mm (some (p, cls, d))) k b W0 D σ H) dx.stk dx.frm g.nd (by rw [hN]; exact ixOf_get h1) (by rw [← g.sc] at hly; exact hly) ⟨g.gl hgl, hd, hm⟩ g.tk
            (fun W pn xe tk po => ihB xc .no sc body a h2 k W (X.tr pn xe) ⟨g.N, g.nd, g.sc, fun _ => g.room hcm, g.u65, fun _ => g.calm hcm, tk, po, g.blt, fun _ => g.exn hcm, (fun z => by cases z), (fun z => by cases z), (fun z => by cases z)⟩ ⟨fn, dx.stk, dx.frm⟩)
            (fun p oe cls d pn hz hf => ihB (some (p, cls, d)) .qt sc _ b h3 k W0 (X.suite p ((p, oe) :: pn)) ⟨g.N, g.nd, g.sc, (fun z => by cases z), g.u65, (fun z => by cases z), takes0, PassesOwn.never, g.blt, (fun z => by cases z), (fun _ z => by cases z), fun _ => isH_suite hz hf, (fun z => by cases z)⟩ ⟨fn, dx.stk, dx.frm⟩)).run pins s σ H D I q
        · obtain ⟨x, np, b₀, suite, pos', a, b, rfl, rfl, rfl, hcm, ho, hgl, h2, h3, rfl⟩ := cTryO_eq h
          obtain ⟨hd, _, _⟩ := okName_d ho
          refine ⟨fun pins s σ H D I q => ?_⟩
          obtain ⟨c, hm, q⟩ := q
          refine (ps_try_only (tb := fun W D σ H => wSs (rx X ta mm xc) k a W D σ H) (ts := fun p cls d D σ H => wSs (rx X ta mm (some (p, cls, d))) k b W0 D σ H) dx.stk dx.frm ⟨g.gl hgl, hd, hm⟩ g.tk
            (fun W pn xe tk po => ihB xc .no sc body a h2 k W (X.tr pn xe) ⟨g.N, g.nd, g.sc, fun _ => g.room hcm, g.u65, fun _ => g.calm hcm, tk, po, g.blt, fun _ => g.exn hcm, (fun z => by cases z), (fun z => by cases z), (fun z => by cases z)⟩ ⟨fn, dx.stk, dx.frm⟩)
            (fun p oe cls d pn hz hf => ihB (some (p, cls, d)) .qt sc _ b h3 k W0 (X.suite p ((p, oe) :: pn)) ⟨g.N, g.nd, g.sc, (fun z => by cases z), g.u65, (fun z => by cases z), takes0, PassesOwn.never, g.blt, (fun z => by cases z), (fun _ z => by cases z), fun _ => isH_suite hz hf, (fun z => by cases z)⟩ ⟨fn, dx.stk, dx.frm⟩)).run pins s σ H D I q
      | Raise e c pos =>
        dsimp only at h
        split at h
        · cases h
        rename_i hcm
        have hcm : tp.c = true := by simpa using hcm
        split at h
        · rename_i m' h1
          cases h
          obtain ⟨x, p, z, j, p2, p3, rfl, rfl, rfl, ho, hgl⟩ := cRaise_eq h1
          obtain ⟨hd, _, _⟩ := okName_d ho
          refine ⟨fun pins s σ H D I q => ?_⟩
          obtain ⟨C, hm, hx, q⟩ := q
          exact (ps_raise (g.calm hcm) g.tk (pmk_own PySem.F.excBase_ValueError hx.ex hm hx.kp (raises_own hx.sb hx.ty) (g.gl hgl) hd)).run pins s σ H D I q
        · cases h
          exact ⟨fun pins s σ H D I q => False.elim q⟩
      | _ => cases h
    · unfold cSs at h
      cases st with
      | nil =>
        cases h
        exact pss_nil
      | cons a r =>
        dsimp only at h
        split at h
        · rename_i x y h1 h2
          cases h
          exact pss_cons (ihS _ _ _ _ _ h1 k W X g dx) (ihB _ _ _ _ _ h2 k W X g dx)
        · cases h
end
end Zw

set_option Elab.async false
set_option linter.all false
set_option maxRecDepth 100000
set_option maxHeartbeats 8000000
namespace Zw
open PySem PySem.Spec PyProof.Rows L2
/-! ## defs -/
def scopeB (N ps : List Str) (sc : Scope) : Bool :=
  decide (sc.kind = .function) && !sc.isCoroutine && !sc.isGenerator && decide N.Nodup && decide (N.take ps.length = ps) &&
  (ps.all fun x => decide (sc.names.lookup x = some .local) || decide (sc.names.lookup x = some .cell)) && (sc.names.all fun y => decide (y.2 ≠ .free))
theorem scopeB_ok {N ps : List Str} {sc : Scope} (h : scopeB N ps sc = true) : FnScope N ps sc := by
  unfold scopeB at h
  simp only [Bool.and_eq_true, decide_eq_true_eq, Bool.not_eq_true', List.all_eq_true, Bool.or_eq_true] at h
  obtain ⟨⟨⟨⟨⟨⟨h1, h2⟩, h3⟩, h4⟩, h5⟩, h6⟩, h7⟩ := h
  exact ⟨h1, h2, h3, h4, h5, h6, h7⟩
section
variable {R : Rt}
/-- a def's promise, by the reading of its small text -/
theorem fn_wp {x qual : Str} {st : Stmt} {f : Addr} {fd : FuncData} {N ps : List Str} {k : Nat} {sp : Sp} {body : Ss} (F : Fun R.K x qual st f fd) (S : scopeB N ps (defScope st) = true) (hc : cSs N 60 .no (defScope st) (defBody st) = some body)
    (blt : ∀ x ∈ bltNames, R.mg x = none) (len : ∀ vs H Q E, sp vs H Q E → vs.length = ps.length)
    (h : ∀ vs H Q E, sp vs H Q E → wSs ⟨R, [], fun _ _ _ => False, none⟩ k body (fun cls d _ H' => E cls d H') { nx := fun _ H' => Q .non H', rt := Q } (L2.start N vs) H) : FnOk R.P R.w R.K R.mg R.base (L2.CX R.P R.w) (k + 1) f fd ps sp := by
  have S' := scopeB_ok S
  refine F.okX S' len fun cdv A outer s H vs Q E hr hsp => ?_
  refine ⟨_, (sS_all [] (fun _ _ _ => False) N 60).2 none _ _ _ _ hc k (fun cls d _ H' => E cls d H') _ ⟨rfl, S'.nd, rfl, fun _ => hr, Zw.Room.u65 hr, fun _ => rfl, takes_of rfl rfl rfl rfl, passes_of rfl, blt, fun _ => rfl, (fun z => by cases z), (fun z => by cases z), (fun z => by cases z)⟩ ⟨fun _ => rfl, rfl, rfl⟩, ?_⟩
  exact h vs H Q E hsp
/-- a def that makes lambdas: its code object at c, the table of its code objects at P -/
structure FunL (K : PySem.W.Frag) (x qual : Str) (st : Stmt) (f c : Addr) (fd : FuncData) : Prop where
  ex : ∃ (oc : Value) (od : Option Addr) (kV doc pm : Value) (an : Option Addr) (ct : Value) (osl : Array (Option Value)),
    fd = PySem.W.fnOf x qual (defArgs st) (defBody st) (defScope st) .none kV doc pm an (.ref c) ct ∧ K.lookup f = some ⟨oc, od, .func fd, osl⟩ ∧ PySem.W.codeIn K (.ref c) qual = true
/-- what a lambda is called within a def -/
def lamQ (qual : Str) : Str := (envOfC qual { kind := .function, names := [], isGenerator := false, isCoroutine := false } 0 0 .none).qual ++ "<lambda>"
theorem fn_wpL {x qual : Str} {st : Stmt} {f c P : Addr} {fd : FuncData} {N ps : List Str} {k : Nat} {sp : Sp} {body : Ss} {ta : List (Addr × Str)} (F : FunL R.K x qual st f c fd) (S : scopeB N ps (defScope st) = true) (hc : cSs N 60 .lam (defScope st) (defBody st) = some body)
    (blt : ∀ x ∈ bltNames, R.mg x = none) (TB : LamX.TabB R.base R.mg c P) (hm : (P, lamQ qual) ∈ ta) (hu : ∀ p ∈ ta, p.1 = P → p.2 = lamQ qual) (len : ∀ vs H Q E, sp vs H Q E → vs.length = ps.length)
    (h : ∀ M vs H Q E, sp vs H Q E → wSs ⟨R, ta, M, none⟩ k body (fun cls d _ H' => E cls d H') { nx := fun _ H' => Q .non H', rt := Q } (L2.start N vs) H) : FnOk R.P R.w R.K R.mg R.base (L2.CX R.P R.w) (k + 1) f fd ps sp := by
  have S' := scopeB_ok S
  obtain ⟨oc, od, kV, doc, pm, an, ct, osl, rfl, lk, hcd⟩ := F.ex
  refine fn_of lk hcd S' len fun A outer s H vs Q E hr hsp => ?_
  refine ⟨_, (sS_all ta (Mof _) N 60).2 none _ _ _ _ hc k (fun cls d _ H' => E cls d H') _ ⟨rfl, S'.nd, rfl, fun _ => hr, Zw.Room.u65 hr, fun _ => rfl, takes_of rfl rfl rfl rfl, passes_of rfl, blt, fun _ => rfl, (fun z => by cases z), (fun z => by cases z), fun _ => ⟨fun _ => rfl, rfl, c, P, TB, rfl, hm, hu⟩⟩ ⟨fun _ => rfl, rfl, rfl⟩, ?_⟩
  exact h _ vs H Q E hsp
theorem CallOk.fn {j k : Nat} {f : Addr} {fd : FuncData} {ps : List Str} {sp : Sp} (F : FnOk R.P R.w R.K R.mg R.base (L2.CX R.P R.w) j f fd ps sp) (hb : Binds R.K fd ps []) (h : j ≤ k) : CallOk R k f sp :=
  ⟨fun X e hr pins σ H s Q E us vs I hx r q => by
    subst e
    exact run_fnS (E := fun _ => E) (F.mono h) hr hb hx I r q⟩
theorem CallOk.mono {j k : Nat} {f : Addr} {sp : Sp} (c : CallOk R j f sp) (h : j ≤ k) : CallOk R k f sp := ⟨fun X e hr => c.run X e (hr.mono h)⟩
/-- a class's call: a new instance, then __init__ -/
def spMake (C : Addr) (sp : Sp) : Sp := fun vs H Q E => ∀ x dx, H x = none → H dx = none → dx ≠ x → sp (.ref x :: vs) (upd (upd H dx (.own x)) x (.ins C dx [])) (fun v H2 => v = .non ∧ Q (.ref x) H2) E
theorem CallOk.make {j k : Nat} {f C : Addr} {fd : FuncData} {ps : List Str} {sp : Sp} (M : Mk R.K C f) (F : FnOk R.P R.w R.K R.mg R.base (L2.CX R.P R.w) j f fd ps sp) (hb : Binds R.K fd ps []) (h : j + 1 ≤ k) : CallOk R k C (spMake C sp) :=
  ⟨fun X e hr pins σ H s Q E us vs I hx r q => by
    subst e
    have hr' := hr.mono h
    have hq := q (s.heap.objs.size + 1) s.heap.objs.size (I.hok.fresh (Nat.le_succ _)) (I.hok.fresh (Nat.le_refl _)) (Nat.ne_of_lt (Nat.lt_succ_self _))
    have I2 := Inv.made (C := C) I
    have r2 : Vals (V.ref (s.heap.objs.size + 1) :: vs) (Value.ref (s.heap.objs.size + 1) :: us) := .cons rfl r
    have hl : (Value.ref (s.heap.objs.size + 1) :: us).length = ps.length := by
      have e := r2.length
      rw [F.len _ _ _ _ hq] at e
      exact e.symm
    have b := hb _ (Value.ref (s.heap.objs.size + 1) :: us) I2.kIn (by rw [List.append_nil]; exact hl)
    rw [List.append_nil] at b
    refine wpAny_call (make_map (f := f) I.kIn M.makes M.init (beq_iff_eq.mp M.fn) (codeAny_mono (F.run _ X.stack _ _ ⟨Value.ref (s.heap.objs.size + 1) :: us, []⟩ (Value.ref (s.heap.objs.size + 1) :: us) _ _ E (hr'.make C us [])
      (I2.env0.make C us []) b r2 hq) fun r s' hq' => ?_))
    cases r with
    | error e => exact hx pins _ _ e s' I2 hq'
    | ok fl =>
      cases fl with
      | ret u =>
        obtain ⟨v, H', I3, rv, ev, q3⟩ := I2.after hq'
        subst ev
        exact ⟨rv, ⟨V.ref (s.heap.objs.size + 1), H', I3, rfl, q3⟩⟩
      | next => exact False.elim hq'
      | brk => exact False.elim hq'
      | cont => exact False.elim hq'⟩
end
end Zw

set_option Elab.async false
set_option linter.all false
set_option maxRecDepth 100000
set_option maxHeartbeats 4000000
namespace Zw
open PySem PySem.Spec PyProof.Rows L2
/-! ## one step at a time -/
def NewO (H : Hp) (o : HO) (Q : VK) : Prop := ∀ p, H p = none → Q (.ref p) (upd H p o)
def PutA (K : PySem.W.Frag) (x : V) (f : Str) (y : V) (H : Hp) (N : Hp → Prop) : Prop := ∃ p C dx fs, x = .ref p ∧ H p = some (.ins C dx fs) ∧ Cls K C ∧ NoAttr K C f ∧ fs.length < 1000 ∧ N (upd H p (.ins C dx (putF f y fs)))
section
variable {R : Rx} {k : Nat} {W : WX} {D : Ends} {σ : L2.St} {H : Hp} {Q : VK} {r : Ss}
theorem q_nil (h : D.nx σ H) : wSs R k .nil W D σ H := h
theorem q_set {i : Nat} {e : E} (h : wE R k e W σ H fun v H1 => wSs R k r W D (σ.set i (some v)) H1) : wSs R k (.cons (.set i e) r) W D σ H := h
theorem q_par {i j : Nat} {a b : E} (h : wE R k a W σ H fun v H1 => wE R k b W σ H1 fun w H2 => wSs R k r W D ((σ.set i (some v)).set j (some w)) H2) : wSs R k (.cons (.par i j a b) r) W D σ H := h
theorem q_exp {e : E} (h : wE R k e W σ H fun _ H1 => wSs R k r W D σ H1) : wSs R k (.cons (.exp e) r) W D σ H := h
theorem q_doc (h : wSs R k r W D σ H) : wSs R k (.cons .doc r) W D σ H := h
theorem q_pass (h : wSs R k r W D σ H) : wSs R k (.cons .pass r) W D σ H := h
theorem q_ret {e : E} (h : wE R k e W σ H D.rt) : wSs R k (.cons (.ret e) r) W D σ H := h
theorem q_retN (h : D.rt .non H) : wSs R k (.cons .retN r) W D σ H := h
theorem q_brk (h : D.bk σ H) : wSs R k (.cons .brk r) W D σ H := h
theorem q_cont (h : D.ct σ H) : wSs R k (.cons .cont r) W D σ H := h
theorem q_if {t : T} {a b : Ss} (h : wT R k t W σ H fun c H1 => if c = true then wSs R k a W { D with nx := fun σ' H' => wSs R k r W D σ' H' } σ H1 else wSs R k b W { D with nx := fun σ' H' => wSs R k r W D σ' H' } σ H1) : wSs R k (.cons (.ifs t a b) r) W D σ H := h
theorem q_try {x : Str} {i : Nat} {a b : Ss} {c : Value} (hm : R.mg x = some c ∨ (R.mg x = none ∧ bootBuiltins x = some c ∧ x ≠ "__name__")) (h : wSs R k a (wAs R.K c i (fun p cls d D' σ' H' => wSs { R.toRt with T := R.T, M := R.M, xc := some (p, cls, d) } k b W0 D' σ' H') W { D with nx := fun σ' H' => wSs R k r W D σ' H' }) { D with nx := fun σ' H' => wSs R k r W D σ' H' } σ H) : wSs R k (.cons (.tryAs x i a b) r) W D σ H := ⟨c, hm, h⟩
theorem q_raise {x : Str} {C : Addr} (hx : R.mg x = some (.ref C)) (hc : ExcOk R.K C) (h : W (.ref C) none σ H) : wSs R k (.cons (.raise x) r) W D σ H := ⟨C, hx, hc, h⟩
theorem q_aug {i : Nat} {op : Operator} {e : E} {x : V} (hx : σ[i]? = some (some x)) (h : wE R k e W σ H fun y H1 => rAug op x y H1 fun z H2 => wSs R k r W D (σ.set i (some z)) H2) : wSs R k (.cons (.aug i op e) r) W D σ H := ⟨x, hx, h⟩
theorem q_setFld {a e : E} {f : Str} (h : wE R k e W σ H fun y H1 => wE R k a W σ H1 fun x H2 => PutA R.K x f y H2 fun H3 => wSs R k r W D σ H3) : wSs R k (.cons (.setFld a f e) r) W D σ H := h
theorem q_setSub {a i e : E} (h : wE R k e W σ H fun v H1 => wE R k a W σ H1 fun x H2 => wE R k i W σ H2 fun y H3 => rSetL x y v H3 (fun H4 => wSs R k r W D σ H4) ∨ ∃ p H4, x = .ref p ∧ DPut H3 p y v H4 ∧ wSs R k r W D σ H4) : wSs R k (.cons (.setSub a i e) r) W D σ H := h
theorem e_var {i : Nat} {v : V} (hv : σ[i]? = some (some v)) (h : Q v H) : wE R k (.var i) W σ H Q := ⟨v, hv, h⟩
theorem e_glob {x : Str} {v : V} {u : Value} (hx : R.mg x = some u) (hr : RelV v u) (h : Q v H) : wE R k (.glob x) W σ H Q := ⟨v, u, hx, hr, h⟩
theorem e_bltn {x : Str} {v : V} {u : Value} (hx : bootBuiltins x = some u) (hr : RelV v u) (h : Q v H) : wE R k (.bltn x) W σ H Q := ⟨v, u, hx, hr, h⟩
theorem e_int {i : Int} (h : Q (.int i) H) : wE R k (.int i) W σ H Q := h
theorem e_str {z : Str} (h : Q (.str z) H) : wE R k (.str z) W σ H Q := h
theorem e_bl {b : Bool} (h : Q (.bl b) H) : wE R k (.bl b) W σ H Q := h
theorem e_non (h : Q .non H) : wE R k .non W σ H Q := h
theorem e_bin {op : Operator} {a b : E} (h : wE R k a W σ H fun x H1 => wE R k b W σ H1 fun y H2 => rBin R.K op x y H2 Q) : wE R k (.bin op a b) W σ H Q := h
theorem e_neg {a : E} (h : wE R k a W σ H fun x H1 => ∃ i, x = .int i ∧ Q (.int (-i)) H1) : wE R k (.neg a) W σ H Q := h
theorem e_nt {a : E} (h : wE R k a W σ H fun x H1 => ∃ c, TruV R.K x H1 c ∧ Q (.bl (!c)) H1) : wE R k (.nt a) W σ H Q := h
theorem e_cmp {op : CmpOp} {a b : E} (h : wE R k a W σ H fun x H1 => wE R k b W σ H1 fun y H2 => rCmp R.K op x y H2 Q) : wE R k (.cmp op a b) W σ H Q := h
theorem e_chain {o1 o2 : CmpOp} {a b c : E} (h : wE R k a W σ H fun x H1 => wE R k b W σ H1 fun y H2 => rCmp R.K o1 x y H2 fun z H3 => ∃ c1, z = .bl c1 ∧
      if c1 = true then wE R k c W σ H3 fun v H4 => rCmp R.K o2 y v H4 Q else Q (.bl false) H3) : wE R k (.chain o1 o2 a b c) W σ H Q := h
theorem e_and {a b : E} (h : wE R k a W σ H fun x H1 => ∃ c, TruV R.K x H1 c ∧ if c = true then wE R k b W σ H1 Q else Q x H1) : wE R k (.and2 a b) W σ H Q := h
theorem e_or {a b : E} (h : wE R k a W σ H fun x H1 => ∃ c, TruV R.K x H1 c ∧ if c = true then Q x H1 else wE R k b W σ H1 Q) : wE R k (.or2 a b) W σ H Q := h
theorem e_ife {t : T} {a b : E} (h : wT R k t W σ H fun c H1 => if c = true then wE R k a W σ H1 Q else wE R k b W σ H1 Q) : wE R k (.ife t a b) W σ H Q := h
theorem e_fld {a : E} {f : Str} (h : wE R k a W σ H fun x H1 => rFld R.K x f H1 Q) : wE R k (.fld a f) W σ H Q := h
theorem e_sub {a i : E} (h : wE R k a W σ H fun x H1 => wE R k i W σ H1 fun y H2 => rSubs R.K x y H2 Q) : wE R k (.sub a i) W σ H Q := h
theorem e_tup {es : Es} (h : wEs R k es W σ H fun xs H1 => xs.length ≤ sizeLine ∧ NewO H1 (.tup xs) Q) : wE R k (.tup es) W σ H Q := h
theorem e_lst {es : Es} (h : wEs R k es W σ H fun xs H1 => xs.length ≤ sizeLine ∧ NewO H1 (.lst xs) Q) : wE R k (.lst es) W σ H Q := h
theorem e_bi {b : Bi} {es : Es} (h : wEs R k es W σ H fun vs H1 => rBi R.K R.xc b vs H1 Q) : wE R k (.callB b es) W σ H Q := h
theorem e_call {x : Str} {es : Es} {f : Addr} (h1 : R.mg x = some (.ref f)) (h2 : PySem.W.keepIn R.K (.ref f) = true) (h : wEs R k es W σ H fun vs H1 => ∃ sp, CallOk R.toRt k f sp ∧ sp vs H1 Q (WE W σ)) : wE R k (.call x es) W σ H Q := ⟨f, h1, h2, h⟩
theorem x_sp {R : Rt} {f : Addr} {sp : Sp} {vs : List V} {X : XK} (c : CallOk R k f sp) (h : sp vs H Q X) : ∃ sp, CallOk R k f sp ∧ sp vs H Q X := ⟨sp, c, h⟩
theorem e_meth {a : E} {m : Str} {ms : List Mt} {es : Es} (h : wE R k a W σ H fun x H1 =>
      (R.xc = none ∧ ∃ p C dx fs g, x = .ref p ∧ H1 p = some (.ins C dx fs) ∧ Cls R.K C ∧ Meth R.K C m g ∧ fs.lookup m = none ∧
        wEs R k es W σ H1 fun vs H2 => ∃ sp, CallOk R.toRt k g sp ∧ sp (x :: vs) H2 Q (WE W σ)) ∨
      (∃ t, t ∈ ms ∧ tyV R.K (mtT t) x H1 ∧ wEs R k es W σ H1 fun vs H2 => rMt R.K t x vs H2 Q)) : wE R k (.meth a m ms es) W σ H Q := h
theorem x_own {m : Str} {es : Es} {p C dx g : Addr} {fs : List (Str × V)} {P : Prop} (hx : R.xc = none) (e : H p = some (.ins C dx fs)) (c : Cls R.K C) (me : Meth R.K C m g) (nl : fs.lookup m = none) (h : wEs R k es W σ H fun vs H2 => ∃ sp, CallOk R.toRt k g sp ∧ sp (.ref p :: vs) H2 Q (WE W σ)) :
    (R.xc = none ∧ ∃ p' C dx fs g, V.ref p = .ref p' ∧ H p' = some (.ins C dx fs) ∧ Cls R.K C ∧ Meth R.K C m g ∧ fs.lookup m = none ∧ wEs R k es W σ H fun vs H2 => ∃ sp, CallOk R.toRt k g sp ∧ sp (.ref p :: vs) H2 Q (WE W σ)) ∨ P := .inl ⟨hx, p, C, dx, fs, g, rfl, e, c, me, nl, h⟩
theorem x_bm {x : V} {ms : List Mt} {es : Es} {P : Prop} (t : Mt) (m : t ∈ ms) (ty : tyV R.K (mtT t) x H) (h : wEs R k es W σ H fun vs H2 => rMt R.K t x vs H2 Q) : P ∨ (∃ t, t ∈ ms ∧ tyV R.K (mtT t) x H ∧ wEs R k es W σ H fun vs H2 => rMt R.K t x vs H2 Q) := .inr ⟨t, m, ty, h⟩
theorem es_nil {Q : List V → Hp → Prop} (h : Q [] H) : wEs R k .nil W σ H Q := h
theorem es_cons {e : E} {es : Es} {Q : List V → Hp → Prop} (h : wE R k e W σ H fun x H1 => wEs R k es W σ H1 fun xs H2 => Q (x :: xs) H2) : wEs R k (.cons e es) W σ H Q := h
theorem t_yes {Q : Bool → Hp → Prop} (h : Q true H) : wT R k .yes W σ H Q := h
theorem t_nt {a : T} {Q : Bool → Hp → Prop} (h : wT R k a W σ H fun c H1 => Q (!c) H1) : wT R k (.nt a) W σ H Q := h
theorem t_and {a b : T} {Q : Bool → Hp → Prop} (h : wT R k a W σ H fun c H1 => if c = true then wT R k b W σ H1 Q else Q false H1) : wT R k (.and2 a b) W σ H Q := h
theorem t_or {a b : T} {Q : Bool → Hp → Prop} (h : wT R k a W σ H fun c H1 => if c = true then Q true H1 else wT R k b W σ H1 Q) : wT R k (.or2 a b) W σ H Q := h
theorem t_cmp {e : E} {Q : Bool → Hp → Prop} (h : wE R k e W σ H fun x H1 => ∃ c, x = .bl c ∧ Q c H1) : wT R k (.cmp e) W σ H Q := h
theorem t_val {e : E} {Q : Bool → Hp → Prop} (h : wE R k e W σ H fun x H1 => ∃ c, TruV R.K x H1 c ∧ Q c H1) : wT R k (.val e) W σ H Q := h
end
/-! ## what ends a step -/
section
variable {K : PySem.W.Frag} {xc : XC} {σ : L2.St} {H : Hp} {Q : VK} {l l' : List HP}
theorem Rp.mem {α : Type _} {a b : α} {l l' : List α} (r : Rp a b l l') : a ∈ l := by
  induction r with
  | hd => exact .head _
  | tl r ih => exact .tail _ ih
theorem x_ite {c : Bool} {A B : Prop} (a : c = true → A) (b : c = false → B) : if c = true then A else B := by
  cases c
  · rw [if_neg (by simp)]; exact b rfl
  · rw [if_pos rfl]; exact a rfl
theorem x_itt {A B : Prop} (a : A) : if true = true then A else B := by rw [if_pos rfl]; exact a
theorem x_iff {A B : Prop} (b : B) : if false = true then A else B := by rw [if_neg Bool.false_ne_true]; exact b
theorem x_dt {c : Bool} {A B : Prop} (h : c = true) (a : A) : if c = true then A else B := by rw [if_pos h]; exact a
theorem x_df {c : Bool} {A B : Prop} (h : c = false) (b : B) : if c = true then A else B := by rw [h, if_neg Bool.false_ne_true]; exact b
theorem x_bl {b : Bool} {P : Bool → Prop} (h : P b) : ∃ c, V.bl b = V.bl c ∧ P c := ⟨b, rfl, h⟩
theorem x_in {i : Int} {P : Int → Prop} (h : P i) : ∃ j, V.int i = V.int j ∧ P j := ⟨i, rfl, h⟩
theorem tr_bl {b : Bool} {P : Bool → Prop} (h : P b) : ∃ c, TruV K (.bl b) H c ∧ P c := ⟨b, rfl, h⟩
theorem tr_int {i : Int} {P : Bool → Prop} (h : P (i != 0)) : ∃ c, TruV K (.int i) H c ∧ P c := ⟨_, rfl, h⟩
theorem tr_non {P : Bool → Prop} (h : P false) : ∃ c, TruV K .non H c ∧ P c := ⟨_, rfl, h⟩
theorem tr_lst {p : Addr} {xs : List V} {P : Bool → Prop} (e : SqL K H p xs) (h : P (!xs.isEmpty)) : ∃ c, TruV K (.ref p) H c ∧ P c := ⟨_, .inl ⟨xs, e, rfl⟩, h⟩
theorem tr_tup {p : Addr} {xs : List V} {P : Bool → Prop} (e : SqT K H p xs) (h : P (!xs.isEmpty)) : ∃ c, TruV K (.ref p) H c ∧ P c := ⟨_, .inr (.inl ⟨xs, e, rfl⟩), h⟩
theorem sq_l {p : Addr} {xs : List V} (e : H p = some (.lst xs)) : SqL K H p xs := .inl (.inl e)
theorem sq_f {p : Addr} {o : Obj} {xs : List V} (e : H p = some (.frz o (.lst xs))) : SqL K H p xs := .inl (.inr ⟨o, e⟩)
theorem st_t {p : Addr} {xs : List V} (e : H p = some (.tup xs)) : SqT K H p xs := .inl (.inl e)
theorem b_add {i j : Int} (h : Q (.int (i + j)) H) : rBin K .Add (.int i) (.int j) H Q := .inl ⟨i, j, rfl, rfl, h⟩
theorem b_sub {i j : Int} (h : Q (.int (i - j)) H) : rBin K .Sub (.int i) (.int j) H Q := ⟨i, j, rfl, rfl, h⟩
theorem b_mul {i j : Int} (c : CMul i j) (h : Q (.int (i * j)) H) : rBin K .Mult (.int i) (.int j) H Q := .inl ⟨i, j, rfl, rfl, c, h⟩
theorem b_div {i j : Int} (c : CDivW i j) (h : Q (.int (i / j)) H) : rBin K .FloorDiv (.int i) (.int j) H Q := ⟨i, j, rfl, rfl, c, h⟩
theorem b_mod {i j : Int} (c : 0 < j) (h : Q (.int (i % j)) H) : rBin K .Mod (.int i) (.int j) H Q := ⟨i, j, rfl, rfl, c, h⟩
/-- xs + ys, two lists -/
theorem b_cat {p q : Addr} {xs ys : List V} (ep : H p = some (.lst xs)) (eq : H q = some (.lst ys)) (b : xs.length + ys.length ≤ sizeLine) (h : NewO H (.lst (xs ++ ys)) Q) : rBin K .Add (.ref p) (.ref q) H Q := .inr (.inr (.inl ⟨p, q, xs, ys, rfl, rfl, ep, eq, b, h⟩))
theorem c_lt {i j : Int} (h : Q (.bl (decide (i < j))) H) : rCmp K .Lt (.int i) (.int j) H Q := ⟨i, j, rfl, rfl, h⟩
theorem c_le {i j : Int} (h : Q (.bl (decide (i ≤ j))) H) : rCmp K .LtE (.int i) (.int j) H Q := ⟨i, j, rfl, rfl, h⟩
theorem c_gt {i j : Int} (h : Q (.bl (decide (j < i))) H) : rCmp K .Gt (.int i) (.int j) H Q := ⟨i, j, rfl, rfl, h⟩
theorem c_ge {i j : Int} (h : Q (.bl (decide (j ≤ i))) H) : rCmp K .GtE (.int i) (.int j) H Q := ⟨i, j, rfl, rfl, h⟩
theorem c_is {x : V} (h : Q (.bl (decide (x = .non))) H) : rCmp K .Is x .non H Q := ⟨rfl, h⟩
theorem c_isnt {x : V} (h : Q (.bl (!decide (x = .non))) H) : rCmp K .IsNot x .non H Q := ⟨rfl, h⟩
theorem c_eq {x y : V} (s : scal x y = true) (h : Q (.bl (decide (x = y))) H) : rCmp K .Eq x y H Q := .inl ⟨s, h⟩
theorem c_ne {x y : V} (s : scal x y = true) (h : Q (.bl (!decide (x = y))) H) : rCmp K .NotEq x y H Q := .inl ⟨s, h⟩
theorem c_eqI {i j : Int} (h : Q (.bl (decide (i = j))) H) : rCmp K .Eq (.int i) (.int j) H Q := .inl ⟨rfl, by rw [show decide (V.int i = V.int j) = decide (i = j) by rw [decide_eq_decide]; exact ⟨fun h => by cases h; rfl, fun h => by rw [h]⟩]; exact h⟩
theorem c_neI {i j : Int} (h : Q (.bl (!decide (i = j))) H) : rCmp K .NotEq (.int i) (.int j) H Q := .inl ⟨rfl, by rw [show decide (V.int i = V.int j) = decide (i = j) by rw [decide_eq_decide]; exact ⟨fun h => by cases h; rfl, fun h => by rw [h]⟩]; exact h⟩
theorem c_eqB {i j : Bool} (h : Q (.bl (decide (i = j))) H) : rCmp K .Eq (.bl i) (.bl j) H Q := .inl ⟨rfl, by rw [show decide (V.bl i = V.bl j) = decide (i = j) by rw [decide_eq_decide]; exact ⟨fun h => by cases h; rfl, fun h => by rw [h]⟩]; exact h⟩
theorem c_neB {i j : Bool} (h : Q (.bl (!decide (i = j))) H) : rCmp K .NotEq (.bl i) (.bl j) H Q := .inl ⟨rfl, by rw [show decide (V.bl i = V.bl j) = decide (i = j) by rw [decide_eq_decide]; exact ⟨fun h => by cases h; rfl, fun h => by rw [h]⟩]; exact h⟩
theorem c_eqS {i j : Str} (h : Q (.bl (decide (i = j))) H) : rCmp K .Eq (.str i) (.str j) H Q := .inl ⟨rfl, by rw [show decide (V.str i = V.str j) = decide (i = j) by rw [decide_eq_decide]; exact ⟨fun h => by cases h; rfl, fun h => by rw [h]⟩]; exact h⟩
theorem c_eqD {x y : V} {d e : PyData} (hd : Dp K H x d) (he : Dp K H y e) (sd : SeqAt.shaped d = true) (se : SeqAt.shaped e = true) (h : Q (.bl (PyData.eqv d e)) H) : rCmp K .Eq x y H Q := .inr (.inl ⟨d, e, hd, he, sd, se, h⟩)
theorem ixN_nat {n i : Nat} (h : i < n) : ixN n (i : Int) = some i := by
  unfold ixN
  rw [if_pos (Int.natCast_nonneg i), if_pos (by omega)]
  rfl
theorem ixN_last {n : Nat} (h : 0 < n) : ixN n (-1) = some (n - 1) := by
  unfold ixN
  rw [if_neg (by omega), if_pos (by omega)]
  congr 1
  omega
theorem s_lst {p : Addr} {xs : List V} {i : Nat} {v : V} (e : SqL K H p xs) (g : xs[i]? = some v) (h : Q v H) : rSubs K (.ref p) (.int (i : Nat)) H Q :=
  .inl (.inl ⟨p, xs, i, v, rfl, rfl, e, by unfold atI; rw [ixN_nat (List.getElem?_eq_some_iff.mp g).1]; exact g, h⟩)
theorem s_lstN {p : Addr} {xs : List V} {v : V} (e : SqL K H p xs) (g : xs[xs.length - 1]? = some v) (h : Q v H) : rSubs K (.ref p) (.int (-1)) H Q :=
  .inl (.inl ⟨p, xs, -1, v, rfl, rfl, e, by unfold atI; rw [ixN_last (by have := (List.getElem?_eq_some_iff.mp g).1; omega)]; exact g, h⟩)
theorem s_tup {p : Addr} {xs : List V} {i : Nat} {v : V} (e : SqT K H p xs) (g : xs[i]? = some v) (h : Q v H) : rSubs K (.ref p) (.int (i : Nat)) H Q :=
  .inl (.inr (.inl ⟨p, xs, i, v, rfl, rfl, e, by unfold atI; rw [ixN_nat (List.getElem?_eq_some_iff.mp g).1]; exact g, h⟩))
theorem s_dct {p : Addr} {kvs : List (Key × V)} {z : Str} {v : V} (e : Rd H p (.dK kvs)) (g : valV kvs (.inr z) = some v) (h : Q v H) : rSubs K (.ref p) (.str z) H Q := .inr ⟨p, v, rfl, .inl ⟨kvs, .inr z, e, rfl, g.symm⟩, h⟩
theorem f_ins {p C dx : Addr} {fs : List (Str × V)} {f : Str} {v : V} (e : H p = some (.ins C dx fs)) (c : Cls K C) (n : NoAttr K C f) (g : fs.lookup f = some v) (h : Q v H) : rFld K (.ref p) f H Q := ⟨p, C, dx, fs, v, rfl, e, c, n, g, h⟩
theorem i_len {x : V} {n : Nat} (e : LenV K x H n) (h : Q (.int n) H) : rBi K xc .len [x] H Q := ⟨x, n, rfl, e, h⟩
theorem len_l {p : Addr} {xs : List V} (e : SqL K H p xs) : LenV K (.ref p) H xs.length := .inl ⟨xs, e, rfl⟩
theorem len_t {p : Addr} {xs : List V} (e : SqT K H p xs) : LenV K (.ref p) H xs.length := .inr ⟨xs, e, rfl⟩
theorem i_isi {x c : V} {t u : Value} {b : Bool} (hc : ClsV c u) (ht : TyX K H x t) (g : PySem.W.kitOne K t u = some b) (h : Q (.bl b) H) : rBi K xc .isinstance [x, c] H Q := .inl (.inl ⟨x, c, t, u, b, rfl, hc, ht, g, h⟩)
theorem i_isT {x : V} {tp : Addr} {cs : List V} {t : Value} {us : List Value} {b : Bool} (e : H tp = some (.tup cs)) (hc : Paired ClsV cs us) (ht : TyX K H x t) (g : PySem.W.kitAny K t us = some b) (h : Q (.bl b) H) : rBi K xc .isinstance [x, .ref tp] H Q := .inl (.inr ⟨x, tp, cs, t, us, b, rfl, e, hc, ht, g, h⟩)
theorem i_isE {a C : Addr} {c : V} {cv : Value} {b : Bool} (ec : ExcC K C) (hc : ∀ u, RelV c u → u = cv) (g : PySem.W.kitOne K (.ref C) cv = some b) (h : Q (.bl b) H) : rBi K (some (a, .ref C, none)) .isinstance [.ref a, c] H Q := .inr ⟨a, C, rfl, ec, c, cv, b, rfl, hc, g, h⟩
theorem i_intB {b : Bool} (h : Q (.int (if b then 1 else 0)) H) : rBi K xc .int [.bl b] H Q := .inl (.inr ⟨b, rfl, h⟩)
theorem i_list {p : Addr} {xs : List V} (e : SqL K H p xs) (h : NewO H (.lst xs) Q) : rBi K xc .list [.ref p] H Q := ⟨p, xs, rfl, .inl e, h⟩
section
variable {p : Addr} {xs : List V} {v : V}
theorem s_at {i : Nat} (x : SL l H) (m : pt p (.lst xs) ∈ l) (g : xs[i]? = some v) (h : Q v H) : rSubs K (.ref p) (.int (i : Nat)) H Q := s_lst (sq_l (SL.get m x)) g h
theorem s_0 (x : SL l H) (m : pt p (.lst xs) ∈ l) (g : xs[0]? = some v) (h : Q v H) : rSubs K (.ref p) (.int 0) H Q := s_lst (i := 0) (sq_l (SL.get m x)) g h
theorem s_1 (x : SL l H) (m : pt p (.lst xs) ∈ l) (g : xs[1]? = some v) (h : Q v H) : rSubs K (.ref p) (.int 1) H Q := s_lst (i := 1) (sq_l (SL.get m x)) g h
theorem s_2 (x : SL l H) (m : pt p (.lst xs) ∈ l) (g : xs[2]? = some v) (h : Q v H) : rSubs K (.ref p) (.int 2) H Q := s_lst (i := 2) (sq_l (SL.get m x)) g h
theorem s_m1 (x : SL l H) (m : pt p (.lst xs) ∈ l) (g : xs[xs.length - 1]? = some v) (h : Q v H) : rSubs K (.ref p) (.int (-1)) H Q := s_lstN (sq_l (SL.get m x)) g h
theorem s_z {kvs : List (Key × V)} {z : Str} (x : SL l H) (m : pt p (.dK kvs) ∈ l) (g : valV kvs (.inr z) = some v) (h : Q v H) : rSubs K (.ref p) (.str z) H Q := s_dct (.inl (SL.get m x)) g h
theorem n_lst (x : SL l H) (b : xs.length ≤ sizeLine) (h : ∀ p H', SL (pt p (.lst xs) :: l) H' → Q (.ref p) H') : xs.length ≤ sizeLine ∧ NewO H (.lst xs) Q := ⟨b, fun p n => h p _ (x.new _ n)⟩
theorem n_tup (x : SL l H) (b : xs.length ≤ sizeLine) (h : ∀ p H', SL (pt p (.tup xs) :: l) H' → Q (.ref p) H') : xs.length ≤ sizeLine ∧ NewO H (.tup xs) Q := ⟨b, fun p n => h p _ (x.new _ n)⟩
theorem n_o {o : HO} (x : SL l H) (h : ∀ p H', SL (pt p o :: l) H' → Q (.ref p) H') : NewO H o Q := fun p n => h p _ (x.new _ n)
theorem len_at (x : SL l H) (m : pt p (.lst xs) ∈ l) (h : Q (.int xs.length) H) : rBi K xc .len [.ref p] H Q := ⟨.ref p, xs.length, rfl, .inl ⟨xs, sq_l (SL.get m x), rfl⟩, h⟩
theorem fl_at {C dx : Addr} {fs : List (Str × V)} {f : Str} (x : SL l H) (m : pt p (.ins C dx fs) ∈ l) (c : Cls K C) (n : NoAttr K C f) (g : fs.lookup f = some v) (h : Q v H) : rFld K (.ref p) f H Q := ⟨p, C, dx, fs, v, rfl, SL.get m x, c, n, g, h⟩
end
theorem m_app {p : Addr} {xs : List V} {y : V} (x : SL l H) (r : Rp (pt p (.lst xs)) (pt p (.lst (xs ++ [y]))) l l') (b : xs.length < sizeLine) (h : ∀ H', SL l' H' → Q .non H') : rMt K .append (.ref p) [y] H Q :=
  ⟨p, xs, y, rfl, rfl, (SL.get r.mem x), b, h _ (x.wr r rfl)⟩
theorem m_pop {p : Addr} {xs : List V} {y : V} (x : SL l H) (r : Rp (pt p (.lst xs)) (pt p (.lst xs.dropLast)) l l') (g : xs[xs.length - 1]? = some y) (h : ∀ H', SL l' H' → Q y H') : rMt K .pop (.ref p) [] H Q :=
  ⟨p, xs, y, rfl, rfl, (SL.get r.mem x), g, h _ (x.wr r rfl)⟩
theorem m_pop0 {p : Addr} {xs : List V} {y : V} (x : SL l H) (r : Rp (pt p (.lst (y :: xs))) (pt p (.lst xs)) l l') (h : ∀ H', SL l' H' → Q y H') : rMt K .popAt (.ref p) [.int 0] H Q :=
  ⟨p, y :: xs, 0, 0, y, rfl, rfl, (SL.get r.mem x), by decide, by decide, by simp [seqIndex?], rfl, h _ (x.wr r rfl)⟩
theorem m_clear {p : Addr} {xs : List V} (x : SL l H) (r : Rp (pt p (.lst xs)) (pt p (.lst [])) l l') (h : ∀ H', SL l' H' → Q .non H') : rMt K .clear (.ref p) [] H Q := ⟨p, xs, rfl, rfl, (SL.get r.mem x), h _ (x.wr r rfl)⟩
theorem ty_l {p : Addr} {xs : List V} (e : SqL K H p xs) : tyV K "list" (.ref p) H := .inl ⟨rfl, xs, e⟩
/-- xs[i] = v -/
theorem p_lst {p : Addr} {xs : List V} {i : Nat} {v : V} {N : Hp → Prop} {P : Prop} (x : SL l H) (r : Rp (pt p (.lst xs)) (pt p (.lst (xs.set i v))) l l') (b : i < xs.length) (h : ∀ H', SL l' H' → N H') : rSetL (.ref p) (.int (i : Nat)) v H N ∨ P :=
  .inl ⟨p, xs, i, i, rfl, rfl, (SL.get r.mem x), ixN_nat b, h _ (x.wr r rfl)⟩
theorem p_0 {p : Addr} {xs : List V} {v : V} {N : Hp → Prop} {P : Prop} (x : SL l H) (r : Rp (pt p (.lst xs)) (pt p (.lst (xs.set 0 v))) l l') (b : 0 < xs.length) (h : ∀ H', SL l' H' → N H') : rSetL (.ref p) (.int 0) v H N ∨ P := p_lst (i := 0) x r b h
theorem p_1 {p : Addr} {xs : List V} {v : V} {N : Hp → Prop} {P : Prop} (x : SL l H) (r : Rp (pt p (.lst xs)) (pt p (.lst (xs.set 1 v))) l l') (b : 1 < xs.length) (h : ∀ H', SL l' H' → N H') : rSetL (.ref p) (.int 1) v H N ∨ P := p_lst (i := 1) x r b h
/-- d['z'] = v -/
theorem p_dct {p : Addr} {kvs : List (Key × V)} {z : Str} {v : V} {N : Hp → Prop} {P : Prop} (x : SL l H) (r : Rp (pt p (.dK kvs)) (pt p (.dK (putK kvs (.inr z) v))) l l') (b : kvs.length < sizeLine) (h : ∀ H', SL l' H' → N H') : P ∨ ∃ q H4, V.ref p = .ref q ∧ DPut H q (.str z) v H4 ∧ N H4 :=
  .inr ⟨p, _, rfl, DPut.k (k := .inr z) (SL.get r.mem x) b, h _ (x.wr r rfl)⟩
/-- o.f = v -/
theorem p_fld {p C dx : Addr} {fs : List (Str × V)} {f : Str} {v : V} {N : Hp → Prop} (x : SL l H) (c : Cls K C) (n : NoAttr K C f) (b : fs.length < 1000) (r : Rp (pt p (.ins C dx fs)) (pt p (.ins C dx (putF f v fs))) l l') (h : ∀ H', SL l' H' → N H') :
    PutA K (.ref p) f v H N := ⟨p, C, dx, fs, rfl, (SL.get r.mem x), c, n, b, h _ (x.wr r rfl)⟩
end
/-! ## loops -/
section
variable {R : Rx} {k : Nat} {W : WX} {D : Ends} {σ : L2.St} {H : Hp} {Q : VK} {r : Ss}
theorem q_for {i : Nat} {it : I} {a : Ss} (h : wI R k it W σ H fun J H1 => ∃ V : Nat → Nat → L2.St → Hp → Prop, (∃ m, V 0 m σ H1) ∧ ∀ j m σ H, V j m σ H →
  (J.stop j H ∧ wSs R k r W D σ H) ∨ (J.go j H ∧ ∃ N : L2.St → Hp → Prop, (∀ σ' H', N σ' H' → ∃ m', m' < m ∧ V (j + 1) m' σ' H') ∧ ∀ x H', J.yld j H x H' → wSs R k a W { D with nx := N, ct := N, bk := fun σ' H' => wSs R k r W D σ' H' } (σ.set i (some x)) H')) : wSs R k (.cons (.fors (.nm i) it a) r) W D σ H := .inl h
theorem i_seq {e : E} {S : It → Hp → Prop} (h : wE R k e W σ H fun x H1 => (∃ a, x = .ref a ∧ (∃ xs, SqL R.K H1 a xs) ∧ S (Itl R.K a) H1) ∨ (∃ a, x = .ref a ∧ (∃ xs, SqT R.K H1 a xs) ∧ S (Itt R.K a) H1) ∨
      (∃ d o kvs, x = .ref d ∧ H1 d = some (.frz o (.dK kvs)) ∧ S (Itk d o kvs) H1) ∨ (∃ z, x = .str z ∧ S (Its z) H1)) : wI R k (.seq e) W σ H S := h
theorem i_rng {e : E} {S : It → Hp → Prop} (h : wE R k e W σ H fun x H1 => ∃ j : Int, x = .int j ∧ -(2 ^ 62) ≤ j ∧ j < 2 ^ 62 ∧ S (Itr 0 j.toNat) H1) : wI R k (.rng1 e) W σ H S := h
/-- over a list that stays as it is; inv: what holds ahead of turn j -/
theorem l_lst {i : Nat} {a : Ss} {p : Addr} {xs : List V} {P : Prop} (inv : Nat → L2.St → Hp → Prop) (e : SqL R.K H p xs) (i0 : inv 0 σ H) (sq : ∀ j σ H, inv j σ H → SqL R.K H p xs)
    (st : ∀ j x σ H, xs[j]? = some x → inv j σ H → wSs R k a W { D with nx := inv (j + 1), ct := inv (j + 1), bk := fun σ' H' => wSs R k r W D σ' H' } (σ.set i (some x)) H) (en : ∀ σ H, inv xs.length σ H → wSs R k r W D σ H) :
    (∃ q, V.ref p = .ref q ∧ (∃ xs, SqL R.K H q xs) ∧ ∃ V : Nat → Nat → L2.St → Hp → Prop, (∃ m, V 0 m σ H) ∧ ∀ j m σ H, V j m σ H →
  ((Itl R.K q).stop j H ∧ wSs R k r W D σ H) ∨ ((Itl R.K q).go j H ∧ ∃ N : L2.St → Hp → Prop, (∀ σ' H', N σ' H' → ∃ m', m' < m ∧ V (j + 1) m' σ' H') ∧ ∀ x H', (Itl R.K q).yld j H x H' → wSs R k a W { D with nx := N, ct := N, bk := fun σ' H' => wSs R k r W D σ' H' } (σ.set i (some x)) H')) ∨ P := by
  refine .inl ⟨p, rfl, ⟨xs, e⟩, fun j m σ H => j + m = xs.length ∧ inv j σ H, ⟨xs.length, by omega, i0⟩, fun j m σ H ⟨hm, hi⟩ => ?_⟩
  have s1 := sq j σ H hi
  by_cases hj : j < xs.length
  · refine .inr ⟨⟨xs, xs[j], s1, List.getElem?_eq_getElem hj⟩, inv (j + 1), fun σ' H' h' => ⟨m - 1, by omega, by omega, h'⟩, fun x H' hy => ?_⟩
    obtain ⟨rfl, hx⟩ := hy
    exact st j x σ _ (hx xs s1) hi
  · have : j = xs.length := by omega
    subst this
    exact .inl ⟨⟨xs, s1, Nat.le_refl _⟩, en σ H hi⟩
/-- over range(n) -/
theorem l_rng {i : Nat} {a : Ss} {n : Nat} (inv : Nat → L2.St → Hp → Prop) (b : n < 2 ^ 62) (i0 : inv 0 σ H)
    (st : ∀ j σ H, j < n → inv j σ H → wSs R k a W { D with nx := inv (j + 1), ct := inv (j + 1), bk := fun σ' H' => wSs R k r W D σ' H' } (σ.set i (some (.int (j : Nat)))) H) (en : ∀ σ H, inv n σ H → wSs R k r W D σ H) :
    ∃ j : Int, V.int (n : Nat) = .int j ∧ -(2 ^ 62) ≤ j ∧ j < 2 ^ 62 ∧ ∃ V : Nat → Nat → L2.St → Hp → Prop, (∃ m, V 0 m σ H) ∧ ∀ t m σ H, V t m σ H →
  ((Itr 0 j.toNat).stop t H ∧ wSs R k r W D σ H) ∨ ((Itr 0 j.toNat).go t H ∧ ∃ N : L2.St → Hp → Prop, (∀ σ' H', N σ' H' → ∃ m', m' < m ∧ V (t + 1) m' σ' H') ∧ ∀ x H', (Itr 0 j.toNat).yld t H x H' → wSs R k a W { D with nx := N, ct := N, bk := fun σ' H' => wSs R k r W D σ' H' } (σ.set i (some x)) H') := by
  refine ⟨n, rfl, by omega, by omega, fun j m σ H => j + m = n ∧ inv j σ H, ⟨n, by omega, i0⟩, fun j m σ H ⟨hm, hi⟩ => ?_⟩
  have en' : ((n : Int)).toNat = n := by omega
  rw [en']
  by_cases hj : j < n
  · refine .inr ⟨hj, inv (j + 1), fun σ' H' h' => ⟨m - 1, by omega, by omega, h'⟩, fun x H' hy => ?_⟩
    obtain ⟨rfl, hx⟩ := hy
    subst hx
    have : (0 : Int) + (j : Int) = (j : Int) := by omega
    rw [this]
    exact st j σ _ hj hi
  · have : j = n := by omega
    subst this
    exact .inl ⟨Nat.le_refl _, en σ H hi⟩
end
end Zw

set_option Elab.async false
set_option linter.all false
set_option maxRecDepth 100000
set_option maxHeartbeats 4000000
namespace Zw
open PySem PySem.Spec PyProof.Rows L2
/-! ## the helpers that the laws share -/
def N_begun : List Str := ["_law_script", "_law_stirred", "_law_cell"]
def b_begun : Ss := (.cons (.set 1 (.int 0))
  (.cons (.fors (.nm 2) (.seq (.var 0))
  (.cons (.set 1 (.bin .Mod (.bin .Add (.bin .Add (.bin .Mult (.var 1) (.int 48271)) (.bin .Mult (.var 2) (.int 69621))) (.int 11)) (.int 2147483647)))
  .nil))
  (.cons (.ret (.lst (.cons (.callB .list (.cons (.var 0) .nil)) (.cons (.bin .Mult (.var 1) (.callB .int (.cons (.cmp .Gt (.callB .len (.cons (.var 0) .nil)) (.int 2)) .nil))) .nil))))
  .nil)))
def N_take : List Str := ["_law_box", "_law_many", "_law_number"]
def b_take : Ss := (.cons (.ifs (.cmp (.cmp .Eq (.sub (.var 0) (.int 0)) (.lst .nil)))
  (.cons (.setSub (.var 0) (.int 1) (.bin .Mod (.bin .Mult (.sub (.var 0) (.int 1)) (.int 48271)) (.int 2147483647)))
  (.cons (.ret (.bin .Mod (.bin .FloorDiv (.sub (.var 0) (.int 1)) (.int 7)) (.var 1)))
  .nil))
  .nil)
  (.cons (.set 2 (.sub (.sub (.var 0) (.int 0)) (.int 0)))
  (.cons (.setSub (.sub (.var 0) (.int 0)) (.int 0) (.bin .FloorDiv (.var 2) (.var 1)))
  (.cons (.ifs (.or2 (.cmp (.cmp .Eq (.sub (.sub (.var 0) (.int 0)) (.int 0)) (.int 0))) (.cmp (.cmp .Eq (.sub (.sub (.var 0) (.int 0)) (.int 0)) (.neg (.int 1)))))
  (.cons (.exp (.meth (.sub (.var 0) (.int 0)) "pop" [.pop, .popAt, .dpop1, .dpop2] (.cons (.int 0) .nil)))
  .nil)
  .nil)
  (.cons (.ret (.bin .Mod (.var 2) (.var 1)))
  .nil)))))
def N_alike : List Str := ["_law_found", "_law_due", "_law_k"]
def b_alike : Ss := (.cons (.ifs (.cmp (.cmp .Is (.var 1) .non))
  (.cons (.ret (.cmp .Is (.var 0) .non))
  .nil)
  .nil)
  (.cons (.ifs (.val (.callB .isinstance (.cons (.var 1) (.cons (.bltn "bool") .nil))))
  (.cons (.ret (.and2 (.callB .isinstance (.cons (.var 0) (.cons (.bltn "bool") .nil))) (.cmp .Eq (.var 0) (.var 1))))
  .nil)
  .nil)
  (.cons (.ifs (.val (.callB .isinstance (.cons (.var 1) (.cons (.bltn "int") .nil))))
  (.cons (.ret (.and2 (.callB .isinstance (.cons (.var 0) (.cons (.bltn "int") .nil))) (.and2 (.nt (.callB .isinstance (.cons (.var 0) (.cons (.bltn "bool") .nil)))) (.cmp .Eq (.var 0) (.var 1)))))
  .nil)
  .nil)
  (.cons (.ifs (.val (.callB .isinstance (.cons (.var 1) (.cons (.bltn "str") .nil))))
  (.cons (.ret (.and2 (.callB .isinstance (.cons (.var 0) (.cons (.bltn "str") .nil))) (.cmp .Eq (.var 0) (.var 1))))
  .nil)
  .nil)
  (.cons (.ifs (.or2 (.cmp (.cmp .NotEq (.callB .isinstance (.cons (.var 1) (.cons (.bltn "tuple") .nil))) (.callB .isinstance (.cons (.var 0) (.cons (.bltn "tuple") .nil))))) (.cmp (.cmp .NotEq (.callB .isinstance (.cons (.var 1) (.cons (.bltn "list") .nil))) (.callB .isinstance (.cons (.var 0) (.cons (.bltn "list") .nil))))))
  (.cons (.ret (.bl false))
  .nil)
  .nil)
  (.cons (.ifs (.cmp (.cmp .NotEq (.callB .len (.cons (.var 0) .nil)) (.callB .len (.cons (.var 1) .nil))))
  (.cons (.ret (.bl false))
  .nil)
  .nil)
  (.cons (.fors (.nm 2) (.rng1 (.callB .len (.cons (.var 1) .nil)))
  (.cons (.ifs (.nt (.val (.call "_law_alike" (.cons (.sub (.var 0) (.var 2)) (.cons (.sub (.var 1) (.var 2)) .nil)))))
  (.cons (.ret (.bl false))
  .nil)
  .nil)
  .nil))
  (.cons (.ret (.bl true))
  .nil))))))))
def N_all : List Str := ["_law_works", "_law_due", "_law_work"]
def b_all : Ss := (.cons (.ret (.cmp .Eq (.comp (.var 2) (.nm 2) (.seq (.var 0)) (.nt (.val (.call "_law_alike" (.cons (.call "_law_told" (.cons (.var 2) .nil)) (.cons (.var 1) .nil))))) [2]) (.lst .nil)))
  .nil)

/-! ### a walk by itself -/
local macro_rules | `(tactic| walk_at "mem") => `(tactic| (first | exact List.Mem.head _ | (apply List.Mem.tail; walk_at "mem")))
local macro_rules | `(tactic| walk_at "rp") => `(tactic| (first | exact Rp.hd | (apply Rp.tl; walk_at "rp")))
local macro_rules | `(tactic| walk_at "pk") => `(tactic| (first | exact Pk.hd | (apply Pk.tl; walk_at "pk")))
local macro_rules | `(tactic| walk_at "go1") => `(tactic| with_reducible (first
  | refine q_set ?_ | refine q_exp ?_ | refine q_doc ?_ | refine q_pass ?_ | refine q_ret ?_ | refine q_retN ?_ | refine q_brk ?_ | refine q_cont ?_ | refine q_if ?_ | refine q_par ?_ | refine q_setFld ?_ | refine q_setSub ?_ | refine q_for ?_
  | refine e_int ?_ | refine e_str ?_ | refine e_bl ?_ | refine e_non ?_ | refine e_bin ?_ | refine e_neg ?_ | refine e_nt ?_ | refine e_cmp ?_ | refine e_chain ?_ | refine e_and ?_ | refine e_or ?_ | refine e_ife ?_ | refine e_fld ?_ | refine e_sub ?_ | refine e_tup ?_ | refine e_lst ?_ | refine e_bi ?_ | refine e_meth ?_
  | refine es_nil ?_ | refine es_cons ?_ | refine t_yes ?_ | refine t_nt ?_ | refine t_and ?_ | refine t_or ?_ | refine t_cmp ?_ | refine t_val ?_ | refine i_seq ?_ | refine i_rng ?_
  | refine x_bl ?_ | refine x_in ?_ | refine tr_bl ?_ | refine tr_int ?_ | refine tr_non ?_
  | refine b_add ?_ | refine b_sub ?_ | refine c_lt ?_ | refine c_le ?_ | refine c_gt ?_ | refine c_ge ?_ | refine c_is ?_ | refine c_isnt ?_ | refine i_intB ?_ | refine c_eqI ?_ | refine c_neI ?_ | refine c_eqB ?_ | refine c_neB ?_ | refine c_eqS ?_ | refine q_nil ?_ | refine x_itt ?_ | refine x_iff ?_))
local macro_rules | `(tactic| walk_at "go2") => `(tactic| (first
  | ((with_reducible refine' e_var ?hg ?hh); (case hg => rfl))
  | ((with_reducible refine' s_0 ?hx ?hm ?hg ?hh); (case hx => assumption); (case hm => walk_at "mem"); (case hg => rfl))
  | ((with_reducible refine' s_1 ?hx ?hm ?hg ?hh); (case hx => assumption); (case hm => walk_at "mem"); (case hg => rfl))
  | ((with_reducible refine' s_2 ?hx ?hm ?hg ?hh); (case hx => assumption); (case hm => walk_at "mem"); (case hg => rfl))
  | ((with_reducible refine' p_0 ?hx ?hr ?hb ?hh); (case hx => assumption); (case hr => walk_at "rp"); (case hb => first | (simp; done) | decide); intros)
  | ((with_reducible refine' p_1 ?hx ?hr ?hb ?hh); (case hx => assumption); (case hr => walk_at "rp"); (case hb => first | (simp; done) | decide); intros)
  | ((with_reducible refine' n_lst ?hx ?hb ?hh); (case hx => assumption); (case hb => first | decide | (simp only [List.length_cons, List.length_nil]; decide)); intros)
  | ((with_reducible refine' n_tup ?hx ?hb ?hh); (case hx => assumption); (case hb => first | decide | (simp only [List.length_cons, List.length_nil]; decide)); intros)))
local macro_rules | `(tactic| walk_at "go") => `(tactic| repeat (first | walk_at "go1" | walk_at "go2"))
def BoxA (a : Addr) : HP := fun h => ∃ p ns z, SL [pt a (.lst [.ref p, .int z]), pt p (.lst (List.map V.int ns))] h
def spTake : Sp := fun vs H Q _ => ∃ a n l, vs = [.ref a, .int n] ∧ 0 < n ∧ n.natAbs.log2 < 9000 ∧ SL (BoxA a :: l) H ∧ ∀ H' i, 0 ≤ i → i < n → SL (BoxA a :: l) H' → Q (.int i) H'
theorem BoxA.of {a p : Addr} {z : Int} {ns : List Int} {l : List HP} {H : Hp} (x : SL (pt a (.lst [.ref p, .int z]) :: pt p (.lst (List.map V.int ns)) :: l) H) : SL (BoxA a :: l) H :=
  (SL.unnest (m := [_, _]) x).imp fun h y => ⟨p, ns, z, y⟩
theorem dp_ints {K : PySem.W.Frag} {H : Hp} : ∀ ns : List Int, DpAll K H (ns.map V.int) (ns.map PyData.int)
  | [] => .nil
  | _ :: r => .cons (.int _) (dp_ints r)
theorem lay_ints : ∀ ns : List Int, PyData.canLayAll0 (ns.map PyData.int) = true
  | [] => rfl
  | _ :: r => by simp [PyData.canLayAll0, PyData.canLay0, lay_ints r]
theorem dep_ints : ∀ ns : List Int, PyData.depthAll (ns.map PyData.int) = 0
  | [] => rfl
  | _ :: r => by simp [PyData.depthAll, PyData.depth, dep_ints r]
theorem c_nilI {K : PySem.W.Frag} {H : Hp} {Q : VK} {p q : Addr} {ns : List Int} (ep : SqL K H p (ns.map V.int)) (eq : SqL K H q []) (h : Q (.bl ns.isEmpty) H) : rCmp K .Eq (.ref p) (.ref q) H Q := by
  refine c_eqD (.lst ep (dp_ints ns)) (.lst eq .nil) ?_ (by decide +kernel) ?_
  · unfold SeqAt.shaped
    simp [PyData.canLay0, lay_ints, PyData.depth, dep_ints]
  · have : PyData.eqv (.list (ns.map PyData.int)) (.list []) = ns.isEmpty := by
      cases ns <;> simp [PyData.eqv, PyData.eqvAll]
    rw [this]
    exact h
theorem w_take {R : Rx} {k : Nat} {vs : List V} {H : Hp} {Q : VK} {X : XK} (h : spTake vs H Q X) : wSs R k b_take (fun cls d _ H' => X cls d H') { nx := fun _ H' => Q .non H', rt := Q } (L2.start N_take vs) H := by
  obtain ⟨a, n, l, rfl, hn, hb, x, hq⟩ := h
  obtain ⟨p, x⟩ := x.ex
  obtain ⟨ns, x⟩ := x.ex
  obtain ⟨z, x⟩ := x.ex
  have x : SL (pt a (.lst [.ref p, .int z]) :: pt p (.lst (List.map V.int ns)) :: l) H := x.nest
  show wSs R k b_take _ _ [some (.ref a), some (.int n), none] H
  unfold b_take
  walk_at "go"
  rename_i q H1 x1
  refine c_nilI (sq_l (SL.get (by walk_at "mem") x1)) (sq_l (SL.get (by walk_at "mem") x1)) ?_
  walk_at "go"
  cases ns with
  | nil =>
    refine x_ite (fun _ => ?_) (fun c => by cases c)
    walk_at "go"
    refine b_mul (.inr ⟨by decide, by decide⟩) ?_
    walk_at "go"
    refine b_mod (by decide) ?_
    walk_at "go"
    walk_at "go"
    refine b_div ⟨by decide, by decide⟩ ?_
    walk_at "go"
    refine b_mod hn ?_
    rename_i H2 x2
    have y : SL (BoxA a :: l) H2 := BoxA.of (ns := []) x2.tail
    exact hq H2 _ (Int.emod_nonneg _ (by omega)) (Int.emod_lt_of_pos _ hn) y
  | cons i ns =>
    refine x_ite (fun c => by cases c) (fun _ => ?_)
    walk_at "go"
    refine b_div ⟨hn, hb⟩ ?_
    walk_at "go"
    rename_i H2 x2
    have fin : ∀ (ms : List Int) H', SL (pt q (.lst []) :: pt a (.lst [.ref p, .int z]) :: pt p (.lst (List.map V.int ms)) :: l) H' → Q (.int (i % n)) H' := fun ms H' y =>
      hq H' _ (Int.emod_nonneg _ (by omega)) (Int.emod_lt_of_pos _ hn) (BoxA.of y.tail)
    refine x_ite (fun _ => ?_) (fun _ => ?_)
    · walk_at "go"
      refine x_bm .popAt (by decide) (ty_l (sq_l (SL.get (by walk_at "mem") x2))) ?_
      walk_at "go"
      refine m_pop0 x2 (by walk_at "rp") fun H3 x3 => ?_
      walk_at "go"
      refine b_mod hn ?_
      exact fin _ _ x3
    · walk_at "go"
      refine x_ite (fun _ => ?_) (fun _ => ?_)
      · walk_at "go"
        refine x_bm .popAt (by decide) (ty_l (sq_l (SL.get (by walk_at "mem") x2))) ?_
        walk_at "go"
        refine m_pop0 x2 (by walk_at "rp") fun H3 x3 => ?_
        walk_at "go"
        refine b_mod hn ?_
        exact fin _ _ x3
      · walk_at "go"
        refine b_mod hn ?_
        exact fin ((i / n) :: ns) _ x2
end Zw

set_option Elab.async false
set_option linter.all false
set_option maxRecDepth 100000
set_option maxHeartbeats 4000000
namespace Zw
open PySem PySem.Spec PyProof.Rows L2
local macro_rules | `(tactic| walk_at "mem") => `(tactic| (first | exact List.Mem.head _ | (apply List.Mem.tail; walk_at "mem")))
local macro_rules | `(tactic| walk_at "rp") => `(tactic| (first | exact Rp.hd | (apply Rp.tl; walk_at "rp")))
local macro_rules | `(tactic| walk_at "pk") => `(tactic| (first | exact Pk.hd | (apply Pk.tl; walk_at "pk")))
local macro_rules | `(tactic| walk_at "go1") => `(tactic| with_reducible (first
  | refine q_set ?_ | refine q_exp ?_ | refine q_doc ?_ | refine q_pass ?_ | refine q_ret ?_ | refine q_retN ?_ | refine q_brk ?_ | refine q_cont ?_ | refine q_if ?_ | refine q_par ?_ | refine q_setFld ?_ | refine q_setSub ?_ | refine q_for ?_
  | refine e_int ?_ | refine e_str ?_ | refine e_bl ?_ | refine e_non ?_ | refine e_bin ?_ | refine e_neg ?_ | refine e_nt ?_ | refine e_cmp ?_ | refine e_chain ?_ | refine e_and ?_ | refine e_or ?_ | refine e_ife ?_ | refine e_fld ?_ | refine e_sub ?_ | refine e_tup ?_ | refine e_lst ?_ | refine e_bi ?_ | refine e_meth ?_
  | refine es_nil ?_ | refine es_cons ?_ | refine t_yes ?_ | refine t_nt ?_ | refine t_and ?_ | refine t_or ?_ | refine t_cmp ?_ | refine t_val ?_ | refine i_seq ?_ | refine i_rng ?_
  | refine x_bl ?_ | refine x_in ?_ | refine tr_bl ?_ | refine tr_int ?_ | refine tr_non ?_
  | refine b_add ?_ | refine b_sub ?_ | refine c_lt ?_ | refine c_le ?_ | refine c_gt ?_ | refine c_ge ?_ | refine c_is ?_ | refine c_isnt ?_ | refine i_intB ?_ | refine c_eqI ?_ | refine c_neI ?_ | refine c_eqB ?_ | refine c_neB ?_ | refine c_eqS ?_ | refine q_nil ?_ | refine x_itt ?_ | refine x_iff ?_))
local macro_rules | `(tactic| walk_at "go2") => `(tactic| (first
  | ((with_reducible refine' e_var ?hg ?hh); (case hg => rfl))
  | ((with_reducible refine' s_0 ?hx ?hm ?hg ?hh); (case hx => assumption); (case hm => walk_at "mem"); (case hg => rfl))
  | ((with_reducible refine' s_1 ?hx ?hm ?hg ?hh); (case hx => assumption); (case hm => walk_at "mem"); (case hg => rfl))
  | ((with_reducible refine' s_2 ?hx ?hm ?hg ?hh); (case hx => assumption); (case hm => walk_at "mem"); (case hg => rfl))
  | ((with_reducible refine' p_0 ?hx ?hr ?hb ?hh); (case hx => assumption); (case hr => walk_at "rp"); (case hb => first | (simp; done) | decide); intros)
  | ((with_reducible refine' p_1 ?hx ?hr ?hb ?hh); (case hx => assumption); (case hr => walk_at "rp"); (case hb => first | (simp; done) | decide); intros)
  | ((with_reducible refine' n_lst ?hx ?hb ?hh); (case hx => assumption); (case hb => first | decide | (simp only [List.length_cons, List.length_nil]; decide)); intros)
  | ((with_reducible refine' n_tup ?hx ?hb ?hh); (case hx => assumption); (case hb => first | decide | (simp only [List.length_cons, List.length_nil]; decide)); intros)))
local macro_rules | `(tactic| walk_at "go") => `(tactic| repeat (first | walk_at "go1" | walk_at "go2"))
def spBegun (K : PySem.W.Frag) : Sp := fun vs H Q _ => ∃ (a : Addr) (ns : List Int) (l : List HP), vs = [.ref a] ∧ ns.length ≤ sizeLine ∧ SL l H ∧ (∀ H', SL l H' → SqL K H' a (ns.map V.int)) ∧ ∀ b H', SL (BoxA b :: l) H' → Q (.ref b) H'
theorem w_begun {R : Rx} {k : Nat} {vs : List V} {H : Hp} {Q : VK} {X : XK} (h : spBegun R.K vs H Q X) : wSs R k b_begun (fun cls d _ H' => X cls d H') { nx := fun _ H' => Q .non H', rt := Q } (L2.start N_begun vs) H := by
  obtain ⟨a, ns, l, rfl, hl, x, m, hq⟩ := h
  show wSs R k b_begun _ _ [some (.ref a), none, none] H
  unfold b_begun
  walk_at "go"
  refine l_lst (fun _ σ H => SL l H ∧ ∃ z c, σ = [some (.ref a), some (.int z), c]) (m _ x) ⟨x, 0, _, rfl⟩ (fun j σ H i => m _ i.1) (fun j v σ H hv i => ?_) fun σ H i => ?_
  · obtain ⟨x1, z, c, rfl⟩ := i
    rw [List.getElem?_map] at hv
    cases hj : ns[j]? with
    | none => rw [hj] at hv; cases hv
    | some y =>
      rw [hj] at hv
      cases hv
      walk_at "go"
      refine b_mul (.inr ⟨by decide, by decide⟩) ?_
      walk_at "go"
      refine b_mul (.inr ⟨by decide, by decide⟩) ?_
      walk_at "go"
      refine b_mod (by decide) ?_
      walk_at "go"
      exact ⟨x1, _, _, rfl⟩
  · obtain ⟨x1, z, c, rfl⟩ := i
    walk_at "go"
    refine i_list (m _ x1) (n_o x1 fun p H2 x2 => ?_)
    walk_at "go"
    refine i_len (len_l (m _ x2.tail)) ?_
    walk_at "go"
    refine b_mul (.inr ?_) ?_
    · split <;> exact ⟨by decide, by decide⟩
    walk_at "go"
    rename_i b H3 x3
    exact hq b H3 (BoxA.of x3)
theorem fn_begun {R : Rt} {st : Stmt} {qual : Str} {f : Addr} {fd : FuncData} {k : Nat} (F : Fun R.K "_law_begun" qual st f fd) (blt : ∀ x ∈ bltNames, R.mg x = none)
    (S : scopeB N_begun ["_law_script"] (defScope st) = true) (hc : cSs N_begun 60 .no (defScope st) (defBody st) = some b_begun) : FnOk R.P R.w R.K R.mg R.base (L2.CX R.P R.w) (k + 1) f fd ["_law_script"] (spBegun R.K) := by
  refine fn_wp F S hc blt (fun vs H Q E h => ?_) fun vs H Q E h => ?_
  · obtain ⟨a, _, _, rfl, _⟩ := h
    rfl
  · exact w_begun (R := ⟨R, [], fun _ _ _ => False, none⟩) h
theorem fn_take {R : Rt} {st : Stmt} {qual : Str} {f : Addr} {fd : FuncData} {k : Nat} (F : Fun R.K "_law_take" qual st f fd) (blt : ∀ x ∈ bltNames, R.mg x = none)
    (S : scopeB N_take ["_law_box", "_law_many"] (defScope st) = true) (hc : cSs N_take 60 .no (defScope st) (defBody st) = some b_take) : FnOk R.P R.w R.K R.mg R.base (L2.CX R.P R.w) (k + 1) f fd ["_law_box", "_law_many"] spTake := by
  refine fn_wp F S hc blt (fun vs H Q E h => ?_) fun vs H Q E h => ?_
  · obtain ⟨a, n, _, rfl, _⟩ := h
    rfl
  · exact w_take (R := ⟨R, [], fun _ _ _ => False, none⟩) h
end Zw

set_option Elab.async false
set_option linter.all false
set_option maxRecDepth 100000
set_option maxHeartbeats 4000000
namespace Zw
open PySem PySem.Spec PyProof.Rows L2
local macro_rules | `(tactic| walk_at "mem") => `(tactic| (first | exact List.Mem.head _ | (apply List.Mem.tail; walk_at "mem")))
local macro_rules | `(tactic| walk_at "rp") => `(tactic| (first | exact Rp.hd | (apply Rp.tl; walk_at "rp")))
local macro_rules | `(tactic| walk_at "pk") => `(tactic| (first | exact Pk.hd | (apply Pk.tl; walk_at "pk")))
local macro_rules | `(tactic| walk_at "go1") => `(tactic| with_reducible (first
  | refine q_set ?_ | refine q_exp ?_ | refine q_doc ?_ | refine q_pass ?_ | refine q_ret ?_ | refine q_retN ?_ | refine q_brk ?_ | refine q_cont ?_ | refine q_if ?_ | refine q_par ?_ | refine q_setFld ?_ | refine q_setSub ?_ | refine q_for ?_
  | refine e_int ?_ | refine e_str ?_ | refine e_bl ?_ | refine e_non ?_ | refine e_bin ?_ | refine e_neg ?_ | refine e_nt ?_ | refine e_cmp ?_ | refine e_chain ?_ | refine e_and ?_ | refine e_or ?_ | refine e_ife ?_ | refine e_fld ?_ | refine e_sub ?_ | refine e_tup ?_ | refine e_lst ?_ | refine e_bi ?_ | refine e_meth ?_
  | refine es_nil ?_ | refine es_cons ?_ | refine t_yes ?_ | refine t_nt ?_ | refine t_and ?_ | refine t_or ?_ | refine t_cmp ?_ | refine t_val ?_ | refine i_seq ?_ | refine i_rng ?_
  | refine x_bl ?_ | refine x_in ?_ | refine tr_bl ?_ | refine tr_int ?_ | refine tr_non ?_
  | refine b_add ?_ | refine b_sub ?_ | refine c_lt ?_ | refine c_le ?_ | refine c_gt ?_ | refine c_ge ?_ | refine c_is ?_ | refine c_isnt ?_ | refine i_intB ?_ | refine c_eqI ?_ | refine c_neI ?_ | refine c_eqB ?_ | refine c_neB ?_ | refine c_eqS ?_ | refine q_nil ?_ | refine x_itt ?_ | refine x_iff ?_))
local macro_rules | `(tactic| walk_at "go2") => `(tactic| (first
  | ((with_reducible refine' e_var ?hg ?hh); (case hg => rfl))
  | ((with_reducible refine' s_0 ?hx ?hm ?hg ?hh); (case hx => assumption); (case hm => walk_at "mem"); (case hg => rfl))
  | ((with_reducible refine' s_1 ?hx ?hm ?hg ?hh); (case hx => assumption); (case hm => walk_at "mem"); (case hg => rfl))
  | ((with_reducible refine' s_2 ?hx ?hm ?hg ?hh); (case hx => assumption); (case hm => walk_at "mem"); (case hg => rfl))
  | ((with_reducible refine' p_0 ?hx ?hr ?hb ?hh); (case hx => assumption); (case hr => walk_at "rp"); (case hb => first | (simp; done) | decide); intros)
  | ((with_reducible refine' p_1 ?hx ?hr ?hb ?hh); (case hx => assumption); (case hr => walk_at "rp"); (case hb => first | (simp; done) | decide); intros)
  | ((with_reducible refine' n_lst ?hx ?hb ?hh); (case hx => assumption); (case hb => first | decide | (simp only [List.length_cons, List.length_nil]; decide)); intros)
  | ((with_reducible refine' n_tup ?hx ?hb ?hh); (case hx => assumption); (case hb => first | decide | (simp only [List.length_cons, List.length_nil]; decide)); intros)))
local macro_rules | `(tactic| walk_at "go") => `(tactic| repeat (first | walk_at "go1" | walk_at "go2"))
/-! ### alike -/
/-- kinds of plain values -/
inductive Kd where
  | non | bl | int | str | lst | tup | dct
  deriving DecidableEq
def Kd.nm : Kd → String
  | .non => "NoneType" | .bl => "bool" | .int => "int" | .str => "str" | .lst => "list" | .tup => "tuple" | .dct => "dict"
def kd : PyData → Kd
  | .none => .non | .bool _ => .bl | .int _ => .int | .str _ => .str | .list _ => .lst | .tuple _ => .tup | .dict _ => .dct
theorem dp_ty {K : PySem.W.Frag} {H : Hp} {v : V} {d : PyData} (h : Dp K H v d) : TyX K H v (.type (kd d).nm) := by
  cases h with
  | non => exact .base .non
  | bl b => exact .base (.bl b)
  | int i => exact .base (.int i)
  | str x => exact .base (.str x)
  | lst s _ =>
    rcases s with (s | ⟨o, s⟩) | ⟨o, its, n, s, c, _⟩
    · exact .base (.lst s)
    · exact .base (.frz s)
    · exact .kList s c
  | tup s _ =>
    rcases s with (s | ⟨o, s⟩) | ⟨o, its, n, s, c, _⟩
    · exact .base (.tup s)
    · exact .fTuple s
    · exact .kTuple s c
theorem isi_dp {K : PySem.W.Frag} {xc : XC} {H : Hp} {v : V} {d : PyData} {b : String} {Q : VK} {g : Kd → Bool} (ok : ∀ t : Kd, kitB t.nm b = some (g t)) (hd : Dp K H v d) (h : Q (.bl (g (kd d))) H) : rBi K xc .isinstance [v, .ty b] H Q :=
  i_isi (.ty b) (dp_ty hd) (kit_ty (ok _)) h
def gBl : Kd → Bool | .bl => true | _ => false
def gInt : Kd → Bool | .bl => true | .int => true | _ => false
def gStr : Kd → Bool | .str => true | _ => false
def gTup : Kd → Bool | .tup => true | _ => false
def gLst : Kd → Bool | .lst => true | _ => false
theorem ok_bl (t : Kd) : kitB t.nm "bool" = some (gBl t) := by cases t <;> decide +kernel
theorem ok_int (t : Kd) : kitB t.nm "int" = some (gInt t) := by cases t <;> decide +kernel
theorem ok_str (t : Kd) : kitB t.nm "str" = some (gStr t) := by cases t <;> decide +kernel
theorem ok_tup (t : Kd) : kitB t.nm "tuple" = some (gTup t) := by cases t <;> decide +kernel
theorem ok_lst (t : Kd) : kitB t.nm "list" = some (gLst t) := by cases t <;> decide +kernel
theorem e_ty {R : Rx} {k : Nat} {W : WX} {σ : L2.St} {H : Hp} {Q : VK} {x : Str} {n : String} (hx : bootBuiltins x = some (.type n)) (h : Q (.ty n) H) : wE R k (.bltn x) W σ H Q := e_bltn (v := .ty n) hx (show L2.RelV (.ty n) _ from rfl) h
local macro_rules | `(tactic| walk_at "go2") => `(tactic| (first
  | ((with_reducible refine' e_ty ?hg ?hh); (case hg => rfl))
  | ((with_reducible refine' isi_dp ok_bl ?hx ?hh); (case hx => assumption))
  | ((with_reducible refine' isi_dp ok_int ?hx ?hh); (case hx => assumption))
  | ((with_reducible refine' isi_dp ok_str ?hx ?hh); (case hx => assumption))
  | ((with_reducible refine' isi_dp ok_tup ?hx ?hh); (case hx => assumption))
  | ((with_reducible refine' isi_dp ok_lst ?hx ?hh); (case hx => assumption))
  | ((with_reducible refine' x_dt ?hc ?hh); (case hc => rfl))
  | ((with_reducible refine' x_df ?hc ?hh); (case hc => rfl))))
mutual
def szB : PyData → Bool
  | .list xs | .tuple xs => decide (xs.length ≤ sizeLine) && szAll xs
  | .none | .bool _ | .int _ | .str _ => true
  | .dict _ => false
def szAll : List PyData → Bool
  | [] => true
  | x :: r => szB x && szAll r
end
def spAlike (K : PySem.W.Frag) (n : Nat) : Sp := fun vs H Q _ => ∃ x y d e, vs = [x, y] ∧ Dp K H x d ∧ Dp K H y e ∧ szB e = true ∧ e.depth ≤ n ∧ ∀ b : Bool, (b = true ↔ d = e) → Q (.bl b) H
def Sq (K : PySem.W.Frag) (H : Hp) (p : Addr) (xs : List V) : Prop := SqL K H p xs ∨ SqT K H p xs
section
variable {K : PySem.W.Frag} {xc : XC} {H : Hp} {Q : VK} {p : Addr} {xs : List V}
theorem sq_len (s : Sq K H p xs) (h : Q (.int xs.length) H) : rBi K xc .len [.ref p] H Q := s.elim (fun s => i_len (len_l s) h) fun s => i_len (len_t s) h
theorem sq_at {i : Nat} {v : V} (s : Sq K H p xs) (g : xs[i]? = some v) (h : Q v H) : rSubs K (.ref p) (.int (i : Nat)) H Q := s.elim (fun s => s_lst s g h) fun s => s_tup s g h
theorem DpAll.len' : ∀ {xs : List V} {ds : List PyData}, DpAll K H xs ds → xs.length = ds.length
  | _, _, .nil => rfl
  | _, _, .cons _ t => congrArg Nat.succ (DpAll.len' t)
theorem DpAll.at' : ∀ {xs : List V} {ds : List PyData} {i : Nat}, DpAll K H xs ds → i < xs.length → ∃ v d, xs[i]? = some v ∧ ds[i]? = some d ∧ Dp K H v d
  | _, _, i, .nil, h => absurd h (Nat.not_lt_zero _)
  | _, _, 0, .cons a t, _ => ⟨_, _, rfl, rfl, a⟩
  | _, _, i + 1, .cons a t, h => by
    obtain ⟨v, d, h1, h2, h3⟩ := DpAll.at' (i := i) t (Nat.lt_of_succ_lt_succ h)
    exact ⟨v, d, by simpa using h1, by simpa using h2, h3⟩
end
theorem szAll_at : ∀ {es : List PyData} {i : Nat} {e : PyData}, szAll es = true → es[i]? = some e → szB e = true
  | [], _, _, _, h => by simp at h
  | _ :: _, 0, _, s, h => by
    simp [szAll] at s h
    rw [← h]; exact s.1
  | _ :: r, i + 1, _, s, h => by
    simp [szAll] at s h
    exact szAll_at s.2 h
theorem dep_at : ∀ {es : List PyData} {i : Nat} {e : PyData}, es[i]? = some e → e.depth ≤ PyData.depthAll es
  | [], _, _, h => by simp at h
  | _ :: _, 0, _, h => by
    simp at h
    rw [← h]
    unfold PyData.depthAll
    exact Nat.le_max_left _ _
  | _ :: r, i + 1, _, h => by
    have := dep_at (es := r) (i := i) (by simpa using h)
    unfold PyData.depthAll
    exact Nat.le_trans this (Nat.le_max_right _ _)
abbrev b_alikeT : Ss := (.cons (.ifs (.cmp (.cmp .NotEq (.callB .len (.cons (.var 0) .nil)) (.callB .len (.cons (.var 1) .nil))))
  (.cons (.ret (.bl false))
  .nil)
  .nil)
  (.cons (.fors (.nm 2) (.rng1 (.callB .len (.cons (.var 1) .nil)))
  (.cons (.ifs (.nt (.val (.call "_law_alike" (.cons (.sub (.var 0) (.var 2)) (.cons (.sub (.var 1) (.var 2)) .nil)))))
  (.cons (.ret (.bl false))
  .nil)
  .nil)
  .nil))
  (.cons (.ret (.bl true))
  .nil)))
theorem w_alikeT {R : Rx} {k m : Nat} {H : Hp} {Q : VK} {W : WX} {N : L2.St → Hp → Prop} {p q : Addr} {xs ys : List V} {ds es : List PyData} (sx : Sq R.K H p xs) (sy : Sq R.K H q ys) (ax : DpAll R.K H xs ds) (ay : DpAll R.K H ys es) (hl : es.length ≤ sizeLine) (sz : szAll es = true) (dep : PyData.depthAll es ≤ m)
    (A : ∃ f, R.mg "_law_alike" = some (.ref f) ∧ PySem.W.keepIn R.K (.ref f) = true ∧ CallOk R.toRt k f (spAlike R.K m)) (hq : ∀ b : Bool, (b = true ↔ ds = es) → Q (.bl b) H) :
    wSs R k b_alikeT W { nx := N, rt := Q } [some (.ref p), some (.ref q), none] H := by
  obtain ⟨f, a1, a2, a3⟩ := A
  have lx := DpAll.len' ax
  have ly := DpAll.len' ay
  walk_at "go"
  refine sq_len sx ?_
  walk_at "go"
  refine sq_len sy ?_
  walk_at "go"
  refine x_ite (fun c => ?_) (fun c => ?_)
  · walk_at "go"
    refine hq false ⟨fun z => (by cases z), fun z => ?_⟩
    subst z
    simp at c
    omega
  · have hn : xs.length = ys.length := by
      simp at c
      omega
    walk_at "go"
    refine sq_len sy ?_
    refine l_rng (fun j σ H' => H' = H ∧ (∃ c, σ = [some (.ref p), some (.ref q), c]) ∧ ∀ i, i < j → ds[i]? = es[i]?) ?_ ⟨rfl, ⟨_, rfl⟩, fun i h => absurd h (Nat.not_lt_zero _)⟩ (fun j σ H' hj I => ?_) fun σ H' I => ?_
    · have := L2.line63
      have e : sizeLine = 16777216 := sizeLine_eq
      omega
    · obtain ⟨rfl, ⟨c, rfl⟩, pre⟩ := I
      obtain ⟨v, d, v1, v2, v3⟩ := DpAll.at' (i := j) ax (by omega)
      obtain ⟨u, e, u1, u2, u3⟩ := DpAll.at' (i := j) ay (by omega)
      walk_at "go"
      refine e_call a1 a2 ?_
      walk_at "go"
      refine sq_at sx v1 ?_
      walk_at "go"
      refine sq_at sy u1 ?_
      walk_at "go"
      refine x_sp a3 ⟨v, u, d, e, rfl, v3, u3, szAll_at sz u2, Nat.le_trans (dep_at u2) dep, fun b hb => ?_⟩
      walk_at "go"
      cases b with
      | true =>
        walk_at "go"
        refine ⟨rfl, ⟨_, rfl⟩, fun i hi => ?_⟩
        by_cases hi' : i < j
        · exact pre i hi'
        · have : i = j := by omega
          subst this
          rw [v2, u2, hb.mp rfl]
      | false =>
        walk_at "go"
        refine hq false ⟨fun z => (by cases z), fun z => ?_⟩
        subst z
        rw [v2] at u2
        cases u2
        exact hb.mpr rfl
    · obtain ⟨rfl, ⟨c, rfl⟩, pre⟩ := I
      walk_at "go"
      refine hq true ⟨fun _ => ?_, fun _ => rfl⟩
      apply List.ext_getElem?
      intro i
      by_cases hi : i < ys.length
      · exact pre i hi
      · rw [List.getElem?_eq_none_iff.mpr (by omega), List.getElem?_eq_none_iff.mpr (by omega)]
theorem w_alike {R : Rx} {k n : Nat} {vs : List V} {H : Hp} {Q : VK} {X : XK} (A : ∀ m, n = m + 1 → ∃ f, R.mg "_law_alike" = some (.ref f) ∧ PySem.W.keepIn R.K (.ref f) = true ∧ CallOk R.toRt k f (spAlike R.K m)) (h : spAlike R.K n vs H Q X) :
    wSs R k b_alike (fun cls d _ H' => X cls d H') { nx := fun _ H' => Q .non H', rt := Q } (L2.start N_alike vs) H := by
  obtain ⟨x, y, d, e, rfl, hd, he, sz, dep, hq⟩ := h
  show wSs R k b_alike _ _ [some x, some y, none] H
  unfold b_alike
  have he' := he
  have hd' := hd
  cases he with
  | non => walk_at "go"; cases hd <;> exact hq _ (by simp)
  | bl b => walk_at "go"; cases hd <;> walk_at "go" <;> exact hq _ (by simp [gBl, kd])
  | int i => walk_at "go"; cases hd <;> walk_at "go" <;> exact hq _ (by simp [gBl, gInt, kd])
  | str z => walk_at "go"; cases hd <;> walk_at "go" <;> exact hq _ (by simp [gStr, kd])
  | lst s a =>
    rename_i q ys es
    walk_at "go"
    cases hd
    case lst p xs ds s2 a2 =>
      unfold szB at sz
      unfold PyData.depth at dep
      simp only [Bool.and_eq_true, decide_eq_true_eq] at sz
      have hh : wSs R k b_alikeT (fun cls d _ H' => X cls d H') { nx := fun x H' => Q V.non H', rt := Q } [some (.ref p), some (.ref q), none] H :=
        w_alikeT (m := n - 1) (.inl s2) (.inl s) a2 a sz.1 sz.2 (by omega) (A (n - 1) (by omega)) fun b hb => hq b (by rw [hb]; exact ⟨fun h => by rw [h], fun h => by cases h; rfl⟩)
      repeat (first | (with_reducible exact hh) | walk_at "go1" | walk_at "go2")
    all_goals walk_at "go"
    all_goals exact hq _ (by simp [gTup, gLst, kd])
  | tup s a =>
    rename_i q ys es
    walk_at "go"
    cases hd
    case tup p xs ds s2 a2 =>
      unfold szB at sz
      unfold PyData.depth at dep
      simp only [Bool.and_eq_true, decide_eq_true_eq] at sz
      have hh : wSs R k b_alikeT (fun cls d _ H' => X cls d H') { nx := fun x H' => Q V.non H', rt := Q } [some (.ref p), some (.ref q), none] H :=
        w_alikeT (m := n - 1) (.inr s2) (.inr s) a2 a sz.1 sz.2 (by omega) (A (n - 1) (by omega)) fun b hb => hq b (by rw [hb]; exact ⟨fun h => by rw [h], fun h => by cases h; rfl⟩)
      repeat (first | (with_reducible exact hh) | walk_at "go1" | walk_at "go2")
    all_goals walk_at "go"
    all_goals exact hq _ (by simp [gTup, gLst, kd])
/-- alike at every depth -/
theorem fn_alike {R : Rt} {st : Stmt} {qual : Str} {f : Addr} {fd : FuncData} (F : Fun R.K "_law_alike" qual st f fd) (hb : Binds R.K fd ["_law_found", "_law_due"] []) (hf : R.mg "_law_alike" = some (.ref f)) (hk : PySem.W.keepIn R.K (.ref f) = true) (blt : ∀ x ∈ bltNames, R.mg x = none)
    (S : scopeB N_alike ["_law_found", "_law_due"] (defScope st) = true) (hc : cSs N_alike 60 .no (defScope st) (defBody st) = some b_alike) :
    ∀ n, FnOk R.P R.w R.K R.mg R.base (L2.CX R.P R.w) (n + 1) f fd ["_law_found", "_law_due"] (spAlike R.K n)
  | n => by
    refine fn_wp F S hc blt (fun vs H Q E h => ?_) fun vs H Q E h => ?_
    · obtain ⟨x, y, _, _, rfl, _⟩ := h
      rfl
    · refine w_alike (R := ⟨R, [], fun _ _ _ => False, none⟩) (fun m hm => ?_) h
      subst hm
      exact ⟨f, hf, hk, CallOk.fn (fn_alike F hb hf hk blt S hc m) hb (Nat.le_refl _)⟩
end Zw

set_option Elab.async false
set_option linter.all false
set_option maxRecDepth 100000
set_option maxHeartbeats 4000000
namespace Zw
open PySem PySem.Spec PyProof.Rows L2
local macro_rules | `(tactic| walk_at "mem") => `(tactic| (first | exact List.Mem.head _ | (apply List.Mem.tail; walk_at "mem")))
local macro_rules | `(tactic| walk_at "rp") => `(tactic| (first | exact Rp.hd | (apply Rp.tl; walk_at "rp")))
local macro_rules | `(tactic| walk_at "pk") => `(tactic| (first | exact Pk.hd | (apply Pk.tl; walk_at "pk")))
local macro_rules | `(tactic| walk_at "go1") => `(tactic| with_reducible (first
  | refine q_set ?_ | refine q_exp ?_ | refine q_doc ?_ | refine q_pass ?_ | refine q_ret ?_ | refine q_retN ?_ | refine q_brk ?_ | refine q_cont ?_ | refine q_if ?_ | refine q_par ?_ | refine q_setFld ?_ | refine q_setSub ?_ | refine q_for ?_
  | refine e_int ?_ | refine e_str ?_ | refine e_bl ?_ | refine e_non ?_ | refine e_bin ?_ | refine e_neg ?_ | refine e_nt ?_ | refine e_cmp ?_ | refine e_chain ?_ | refine e_and ?_ | refine e_or ?_ | refine e_ife ?_ | refine e_fld ?_ | refine e_sub ?_ | refine e_tup ?_ | refine e_lst ?_ | refine e_bi ?_ | refine e_meth ?_
  | refine es_nil ?_ | refine es_cons ?_ | refine t_yes ?_ | refine t_nt ?_ | refine t_and ?_ | refine t_or ?_ | refine t_cmp ?_ | refine t_val ?_ | refine i_seq ?_ | refine i_rng ?_
  | refine x_bl ?_ | refine x_in ?_ | refine tr_bl ?_ | refine tr_int ?_ | refine tr_non ?_
  | refine b_add ?_ | refine b_sub ?_ | refine c_lt ?_ | refine c_le ?_ | refine c_gt ?_ | refine c_ge ?_ | refine c_is ?_ | refine c_isnt ?_ | refine i_intB ?_ | refine c_eqI ?_ | refine c_neI ?_ | refine c_eqB ?_ | refine c_neB ?_ | refine c_eqS ?_ | refine q_nil ?_ | refine x_itt ?_ | refine x_iff ?_))
local macro_rules | `(tactic| walk_at "go2") => `(tactic| (first
  | ((with_reducible refine' e_var ?hg ?hh); (case hg => rfl))
  | ((with_reducible refine' s_0 ?hx ?hm ?hg ?hh); (case hx => assumption); (case hm => walk_at "mem"); (case hg => rfl))
  | ((with_reducible refine' s_1 ?hx ?hm ?hg ?hh); (case hx => assumption); (case hm => walk_at "mem"); (case hg => rfl))
  | ((with_reducible refine' s_2 ?hx ?hm ?hg ?hh); (case hx => assumption); (case hm => walk_at "mem"); (case hg => rfl))
  | ((with_reducible refine' p_0 ?hx ?hr ?hb ?hh); (case hx => assumption); (case hr => walk_at "rp"); (case hb => first | (simp; done) | decide); intros)
  | ((with_reducible refine' p_1 ?hx ?hr ?hb ?hh); (case hx => assumption); (case hr => walk_at "rp"); (case hb => first | (simp; done) | decide); intros)
  | ((with_reducible refine' n_lst ?hx ?hb ?hh); (case hx => assumption); (case hb => first | decide | (simp only [List.length_cons, List.length_nil]; decide)); intros)
  | ((with_reducible refine' n_tup ?hx ?hb ?hh); (case hx => assumption); (case hb => first | decide | (simp only [List.length_cons, List.length_nil]; decide)); intros)))
local macro_rules | `(tactic| walk_at "go") => `(tactic| repeat (first | walk_at "go1" | walk_at "go2"))
def N_told : List Str := ["_law_work", "e", "_law_kinds", "_law_words", "_law_word"]
def b_told : Ss := (.cons (.tryAs "VolumeError" 1
  (.cons (.ret (.callL 0))
  .nil)
  (.cons (.set 2 (.lst (.cons (.callB .isinstance (.cons (.var 1) (.cons (.glob "BadNumber") .nil))) (.cons (.callB .isinstance (.cons (.var 1) (.cons (.glob "BadSizes") .nil))) (.cons (.callB .isinstance (.cons (.var 1) (.cons (.glob "BadText") .nil))) (.cons (.callB .isinstance (.cons (.var 1) (.cons (.glob "BadVolume") .nil))) .nil))))))
  (.cons (.set 2 (.bin .Add (.var 2) (.lst (.cons (.callB .isinstance (.cons (.var 1) (.cons (.glob "Full") .nil))) (.cons (.callB .isinstance (.cons (.var 1) (.cons (.glob "Lost") .nil))) (.cons (.callB .isinstance (.cons (.var 1) (.cons (.glob "NoBlock") .nil))) (.cons (.callB .isinstance (.cons (.var 1) (.cons (.glob "NoDisk") .nil))) .nil)))))))
  (.cons (.set 2 (.bin .Add (.var 2) (.lst (.cons (.callB .isinstance (.cons (.var 1) (.cons (.glob "NoVolume") .nil))) (.cons (.callB .isinstance (.cons (.var 1) (.cons (.glob "Stopped") .nil))) .nil)))))
  (.cons (.ifs (.or2 (.cmp (.cmp .NotEq (.meth (.var 2) "count" [.count] (.cons (.bl true) .nil)) (.int 1))) (.nt (.val (.callB .isinstance (.cons (.var 1) (.cons (.bltn "ValueError") .nil))))))
  (.cons (.ret (.tup (.cons (.str "other") (.cons (.int 0) .nil))))
  .nil)
  .nil)
  (.cons (.set 3 (.lst (.cons (.str "BadNumber") (.cons (.str "BadSizes") (.cons (.str "BadText") (.cons (.str "BadVolume") (.cons (.str "Full") (.cons (.str "Lost") (.cons (.str "NoBlock") (.cons (.str "NoDisk") (.cons (.str "NoVolume") .nil)))))))))))
  (.cons (.set 4 (.sub (.bin .Add (.var 3) (.lst (.cons (.str "Stopped") .nil))) (.meth (.var 2) "index" [.index] (.cons (.bl true) .nil))))
  (.cons (.ret (.tup (.cons (.var 4) (.cons (.ife (.cmp (.cmp .Eq (.var 4) (.str "BadText"))) (.fld (.var 1) "row") (.int 0)) .nil))))
  .nil))))))))
  .nil)

/-- the names of the refusals that told tells apart -/
abbrev kindNames : List Str := ["BadNumber", "BadSizes", "BadText", "BadVolume", "Full", "Lost", "NoBlock", "NoDisk", "NoVolume", "Stopped"]
/-- their classes -/
structure Kinds (R : Rt) (VE : Addr) (cls : Str → Addr) : Prop where
  ve : R.mg "VolumeError" = some (.ref VE)
  mg : ∀ x ∈ kindNames, R.mg x = some (.ref (cls x))
  exm : ∀ x ∈ kindNames, PySem.W.exmOne R.K (.ref (cls x)) (.ref VE) = some true
  exc : ∀ x ∈ kindNames, ExcC R.K (cls x)
  isi : ∀ x ∈ kindNames, ∀ y ∈ kindNames, PySem.W.kitOne R.K (.ref (cls x)) (.ref (cls y)) = some (decide (x = y))
  val : ∀ x ∈ kindNames, PySem.W.kitOne R.K (.ref (cls x)) (.type "ValueError") = some true
section
variable {R : Rx} {k : Nat} {W : WX} {σ : L2.St} {H : Hp} {Q : VK} {VE : Addr} {cls : Str → Addr}
theorem e_kind {x : Str} (KN : Kinds R.toRt VE cls) (m : x ∈ kindNames) (h : Q (.ref (cls x)) H) : wE R k (.glob x) W σ H Q := e_glob (v := .ref (cls x)) (KN.mg x m) rfl h
theorem i_kind {a : Addr} {w y : Str} {c : V} (KN : Kinds R.toRt VE cls) (hx : R.xc = some (a, .ref (cls w), none)) (mw : w ∈ kindNames) (ec : c = .ref (cls y)) (my : y ∈ kindNames) (h : Q (.bl (decide (w = y))) H) : rBi R.K R.xc .isinstance [.ref a, c] H Q := by
  subst ec; rw [hx]; exact i_isE (KN.exc w mw) (fun u r => r) (KN.isi w mw y my) h
theorem i_val {a : Addr} {w : Str} (KN : Kinds R.toRt VE cls) (hx : R.xc = some (a, .ref (cls w), none)) (mw : w ∈ kindNames) (h : Q (.bl true) H) : rBi R.K R.xc .isinstance [.ref a, .ty "ValueError"] H Q := by
  rw [hx]; exact i_isE (KN.exc w mw) (fun u r => r) (KN.val w mw) h
end
local macro_rules | `(tactic| walk_at "ik") => `(tactic|
  ((with_reducible refine' i_kind ?hk ?hx ?hw ?he ?hm ?hh); (case hk => assumption); (case hx => assumption); (case hw => assumption); (case he => exact rfl); (case hm => walk_at "mem")))
local macro_rules | `(tactic| walk_at "ek") => `(tactic| ((with_reducible refine' e_kind ?hk ?hm ?hh); (case hk => assumption); (case hm => walk_at "mem")))
local macro_rules | `(tactic| walk_at "et") => `(tactic| ((with_reducible refine' e_ty ?hg ?hh); (case hg => rfl)))
local macro_rules | `(tactic| walk_at "iv") => `(tactic| ((with_reducible refine' i_val ?hk ?hx ?hw ?hh); (case hk => assumption); (case hx => assumption); (case hw => assumption)))
local macro_rules | `(tactic| walk_at "go3") => `(tactic| repeat (first | walk_at "go1" | walk_at "go2" | walk_at "ek" | walk_at "et" | walk_at "ik" | walk_at "iv"))
/-- a refusal comes: told tells its name -/
def Refuses (cls : Str → Addr) (Q : VK) : XK := fun c d H => ∃ w ∈ kindNames, w ≠ "BadText" ∧ c = .ref (cls w) ∧ d = none ∧ ∀ p H', (∀ a o, H a = some o → H' a = some o) → H' p = some (.tup [.str w, .int 0]) → Q (.ref p) H'
def spTold (R : Rt) (k : Nat) (cls : Str → Addr) : Sp := fun vs H Q _ => ∃ f G sp, vs = [.ref f] ∧ G H ∧ LamOk R k f G sp ∧ ∀ E : XK, (∀ c d H', Refuses cls Q c d H' → E c d H') → sp [] H Q E
def kinds (w : Str) : List V := [.bl (decide (w = "BadNumber")), .bl (decide (w = "BadSizes")), .bl (decide (w = "BadText")), .bl (decide (w = "BadVolume"))] ++ [.bl (decide (w = "Full")), .bl (decide (w = "Lost")), .bl (decide (w = "NoBlock")), .bl (decide (w = "NoDisk"))] ++ [.bl (decide (w = "NoVolume")), .bl (decide (w = "Stopped"))]
def wordsV : List V := [.str "BadNumber", .str "BadSizes", .str "BadText", .str "BadVolume", .str "Full", .str "Lost", .str "NoBlock", .str "NoDisk", .str "NoVolume"] ++ [.str "Stopped"]
theorem kinds_count : ∀ w ∈ kindNames, ((kinds w).countP fun z => eqV z (.bl true)) = 1 := by decide +kernel
theorem kinds_flat (w : Str) : (kinds w).all flatV = true := rfl
theorem kinds_at : ∀ w ∈ kindNames, ∃ j ∈ List.range 10, (kinds w)[j]? = some (.bl true) ∧ (∀ m ∈ List.range j, (kinds w)[m]? = some (.bl false)) ∧ wordsV[j]? = some (.str w) := by decide +kernel
theorem SL.ext {H1 : Hp} : ∀ {l : List HP} {H : Hp}, (fun h => ∀ a o, H1 a = some o → h a = some o) ∈ l → SL l H → ∀ a o, H1 a = some o → H a = some o
  | A :: l, H, m, ⟨h, g, a, b, d, x, y⟩, p, o, e => by
    cases m with
    | head => exact a p o (x p o e)
    | tail _ m => exact b p o (SL.ext m y p o e)
theorem w_told {R : Rx} {k : Nat} {VE : Addr} {cls : Str → Addr} {vs : List V} {H : Hp} {Q : VK} {X : XK} (KN : Kinds R.toRt VE cls) (h : spTold R.toRt k cls vs H Q X) :
    wSs R k b_told (fun cls d _ H' => X cls d H') { nx := fun _ H' => Q .non H', rt := Q } (L2.start N_told vs) H := by
  obtain ⟨f, G, sp, rfl, hG, hf, hs⟩ := h
  show wSs R k b_told _ _ [some (.ref f), none, none, none, none] H
  unfold b_told
  refine q_try (.inl KN.ve) ?_
  refine q_ret ⟨f, G, sp, rfl, hG, hf, hs _ fun c d H1 he => ?_⟩
  obtain ⟨w, mw, nb, rfl, rfl, hq⟩ := he
  refine ⟨true, KN.exm w mw, fun _ a _ => ?_, fun z => by cases z⟩
  have x1 : SL [fun h => ∀ a o, H1 a = some o → h a = some o] H1 := ⟨H1, fun _ => none, Sub.refl _, (fun _ _ e => by cases e), (fun _ _ _ _ e => by cases e), fun _ _ e => e, trivial⟩
  clear hs hG hf
  show wSs { R.toRt with T := R.T, M := R.M, xc := some (a, .ref (cls w), none) } k _ W0 _ [some (.ref f), some (.ref a), none, none, none] H1
  generalize hRR : ({ R.toRt with T := R.T, M := R.M, xc := some (a, .ref (cls w), none) } : Rx) = RR
  have KN' : Kinds RR.toRt VE cls := by subst hRR; exact KN
  have hx : RR.xc = some (a, .ref (cls w), none) := by subst hRR; rfl
  walk_at "go3"
  rename_i q1 H2 x2 q2 H3 x3
  refine b_cat (SL.get (by walk_at "mem") x3) (SL.get (by walk_at "mem") x3) (by simp only [List.length_cons, List.length_nil]; decide) (n_o x3 fun q3 H4 x4 => ?_)
  walk_at "go3"
  rename_i q4 H5 x5
  refine b_cat (SL.get (by walk_at "mem") x5) (SL.get (by walk_at "mem") x5) (by simp only [List.length_append, List.length_cons, List.length_nil]; decide) (n_o x5 fun q5 H6 x6 => ?_)
  walk_at "go3"
  have k6 : H6 q5 = some (.lst (kinds w)) := SL.get (.head _) x6
  refine x_bm .count (by decide) (ty_l (sq_l k6)) ?_
  walk_at "go3"
  refine ⟨q5, kinds w, .bl true, rfl, rfl, sq_l k6, rfl, kinds_flat w, ?_⟩
  rw [kinds_count w mw]
  walk_at "go3"
  refine x_df rfl ?_
  walk_at "go3"
  refine x_df rfl ?_
  walk_at "go3"
  rename_i q7 H7 x7 q8 H8 x8
  refine b_cat (SL.get (by walk_at "mem") x8) (SL.get (by walk_at "mem") x8) (by decide) (n_o x8 fun q9 H9 x9 => ?_)
  walk_at "go3"
  have k9 : H9 q5 = some (.lst (kinds w)) := SL.get (.tail _ (.tail _ (.tail _ (.head _)))) x9
  have w9 : H9 q9 = some (.lst wordsV) := SL.get (.head _) x9
  obtain ⟨j, _, hj, hlt, hw⟩ := kinds_at w mw
  refine x_bm .index (by decide) (ty_l (sq_l k9)) ?_
  walk_at "go3"
  refine .inl ⟨q5, kinds w, .bl true, j, .bl true, rfl, rfl, sq_l k9, rfl, kinds_flat w, hj, rfl, fun m z' hm hz => ?_, ?_⟩
  · rw [hlt m (List.mem_range.mpr hm)] at hz
    cases hz
    rfl
  refine s_lst (sq_l w9) hw ?_
  walk_at "go3"
  refine x_df (decide_eq_false nb) ?_
  walk_at "go3"
  rename_i p H' x'
  exact hq p H' (SL.ext (by walk_at "mem") x') (SL.get (.head _) x')
theorem fn_told {R : Rt} {st : Stmt} {qual : Str} {f : Addr} {fd : FuncData} {VE : Addr} {cls : Str → Addr} {k : Nat} (F : Fun R.K "_law_told" qual st f fd) (KN : Kinds R VE cls) (blt : ∀ x ∈ bltNames, R.mg x = none)
    (S : scopeB N_told ["_law_work"] (defScope st) = true) (hc : cSs N_told 60 .no (defScope st) (defBody st) = some b_told) : FnOk R.P R.w R.K R.mg R.base (L2.CX R.P R.w) (k + 1) f fd ["_law_work"] (spTold R k cls) := by
  refine fn_wp F S hc blt (fun vs H Q E h => ?_) fun vs H Q E h => ?_
  · obtain ⟨f, _, _, rfl, _⟩ := h
    rfl
  · exact w_told (R := ⟨R, [], fun _ _ _ => False, none⟩) KN h
end Zw

set_option Elab.async false
set_option linter.all false
set_option maxRecDepth 100000
set_option maxHeartbeats 4000000
namespace Zw
open PySem PySem.Spec PyProof.Rows L2
/-! ## the program's defs -/
local macro_rules | `(tactic| walk_at "mem") => `(tactic| (first | exact List.Mem.head _ | (apply List.Mem.tail; walk_at "mem")))
local macro_rules | `(tactic| walk_at "rp") => `(tactic| (first | exact Rp.hd | (apply Rp.tl; walk_at "rp")))
local macro_rules | `(tactic| walk_at "pk") => `(tactic| (first | exact Pk.hd | (apply Pk.tl; walk_at "pk")))
local macro_rules | `(tactic| walk_at "go1") => `(tactic| with_reducible (first
  | refine q_set ?_ | refine q_exp ?_ | refine q_doc ?_ | refine q_pass ?_ | refine q_ret ?_ | refine q_retN ?_ | refine q_brk ?_ | refine q_cont ?_ | refine q_if ?_ | refine q_par ?_ | refine q_setFld ?_ | refine q_setSub ?_ | refine q_for ?_
  | refine e_int ?_ | refine e_str ?_ | refine e_bl ?_ | refine e_non ?_ | refine e_bin ?_ | refine e_neg ?_ | refine e_nt ?_ | refine e_cmp ?_ | refine e_chain ?_ | refine e_and ?_ | refine e_or ?_ | refine e_ife ?_ | refine e_fld ?_ | refine e_sub ?_ | refine e_tup ?_ | refine e_lst ?_ | refine e_bi ?_ | refine e_meth ?_
  | refine es_nil ?_ | refine es_cons ?_ | refine t_yes ?_ | refine t_nt ?_ | refine t_and ?_ | refine t_or ?_ | refine t_cmp ?_ | refine t_val ?_ | refine i_seq ?_ | refine i_rng ?_
  | refine x_bl ?_ | refine x_in ?_ | refine tr_bl ?_ | refine tr_int ?_ | refine tr_non ?_
  | refine b_add ?_ | refine b_sub ?_ | refine c_lt ?_ | refine c_le ?_ | refine c_gt ?_ | refine c_ge ?_ | refine c_is ?_ | refine c_isnt ?_ | refine i_intB ?_ | refine c_eqI ?_ | refine c_neI ?_ | refine c_eqB ?_ | refine c_neB ?_ | refine c_eqS ?_ | refine q_nil ?_ | refine x_itt ?_ | refine x_iff ?_))
local macro_rules | `(tactic| walk_at "go2") => `(tactic| (first
  | ((with_reducible refine' e_var ?hg ?hh); (case hg => rfl))
  | ((with_reducible refine' s_0 ?hx ?hm ?hg ?hh); (case hx => assumption); (case hm => walk_at "mem"); (case hg => rfl))
  | ((with_reducible refine' s_1 ?hx ?hm ?hg ?hh); (case hx => assumption); (case hm => walk_at "mem"); (case hg => rfl))
  | ((with_reducible refine' s_2 ?hx ?hm ?hg ?hh); (case hx => assumption); (case hm => walk_at "mem"); (case hg => rfl))
  | ((with_reducible refine' p_0 ?hx ?hr ?hb ?hh); (case hx => assumption); (case hr => walk_at "rp"); (case hb => first | (simp; done) | decide); intros)
  | ((with_reducible refine' p_1 ?hx ?hr ?hb ?hh); (case hx => assumption); (case hr => walk_at "rp"); (case hb => first | (simp; done) | decide); intros)
  | ((with_reducible refine' n_lst ?hx ?hb ?hh); (case hx => assumption); (case hb => first | decide | (simp only [List.length_cons, List.length_nil]; decide)); intros)
  | ((with_reducible refine' n_tup ?hx ?hb ?hh); (case hx => assumption); (case hb => first | decide | (simp only [List.length_cons, List.length_nil]; decide)); intros)))
local macro_rules | `(tactic| walk_at "go") => `(tactic| repeat (first | walk_at "go1" | walk_at "go2"))
local macro_rules | `(tactic| walk_at "go2") => `(tactic| (first
  | ((with_reducible refine' e_ty ?hg ?hh); (case hg => rfl))
  | ((with_reducible refine' isi_dp ok_bl ?hx ?hh); (case hx => assumption))
  | ((with_reducible refine' isi_dp ok_int ?hx ?hh); (case hx => assumption))
  | ((with_reducible refine' isi_dp ok_str ?hx ?hh); (case hx => assumption))
  | ((with_reducible refine' isi_dp ok_tup ?hx ?hh); (case hx => assumption))
  | ((with_reducible refine' isi_dp ok_lst ?hx ?hh); (case hx => assumption))
  | ((with_reducible refine' x_dt ?hc ?hh); (case hc => rfl))
  | ((with_reducible refine' x_df ?hc ?hh); (case hc => rfl))))
def N_is_number : List Str := ["thing", "least", "most"]
def b_is_number : Ss := (.cons (.ret (.and2 (.callB .isinstance (.cons (.var 0) (.cons (.bltn "int") .nil))) (.and2 (.nt (.callB .isinstance (.cons (.var 0) (.cons (.bltn "bool") .nil)))) (.chain .LtE .LtE (.var 1) (.var 0) (.var 2)))))
  .nil)

def isNum (d : PyData) (lo hi : Int) : Bool := match d with
  | .int i => decide (lo ≤ i) && decide (i ≤ hi)
  | _ => false
def spIsNum (K : PySem.W.Frag) : Sp := fun vs H Q _ => ∃ x d lo hi, vs = [x, .int lo, .int hi] ∧ Dp K H x d ∧ Q (.bl (isNum d lo hi)) H
theorem w_is_number {R : Rx} {k : Nat} {vs : List V} {H : Hp} {Q : VK} {X : XK} (h : spIsNum R.K vs H Q X) : wSs R k b_is_number (fun cls d _ H' => X cls d H') { nx := fun _ H' => Q .non H', rt := Q } (L2.start N_is_number vs) H := by
  obtain ⟨x, d, lo, hi, rfl, hd, hq⟩ := h
  show wSs R k b_is_number _ _ [some x, some (.int lo), some (.int hi)] H
  unfold b_is_number
  have hd' := hd
  walk_at "go"
  cases hd
  case int i =>
    walk_at "go"
    refine x_ite (fun c => ?_) (fun c => ?_)
    · walk_at "go"
      have : isNum (.int i) lo hi = decide (i ≤ hi) := by
        show (decide (lo ≤ i) && decide (i ≤ hi)) = _
        rw [c]
        rfl
      rw [this] at hq
      exact hq
    · have : isNum (.int i) lo hi = false := by
        show (decide (lo ≤ i) && decide (i ≤ hi)) = _
        rw [c]
        rfl
      rw [this] at hq
      exact hq
  all_goals walk_at "go"
  all_goals exact hq
theorem fn_is_number {R : Rt} {st : Stmt} {qual : Str} {f : Addr} {fd : FuncData} {k : Nat} (F : Fun R.K "is_number" qual st f fd) (blt : ∀ x ∈ bltNames, R.mg x = none)
    (S : scopeB N_is_number ["thing", "least", "most"] (defScope st) = true) (hc : cSs N_is_number 60 .no (defScope st) (defBody st) = some b_is_number) : FnOk R.P R.w R.K R.mg R.base (L2.CX R.P R.w) (k + 1) f fd ["thing", "least", "most"] (spIsNum R.K) := by
  refine fn_wp F S hc blt (fun vs H Q E h => ?_) fun vs H Q E h => ?_
  · obtain ⟨x, d, lo, hi, rfl, _⟩ := h
    rfl
  · exact w_is_number (R := ⟨R, [], fun _ _ _ => False, none⟩) h
def N_check_pieces : List Str := ["pieces"]
def b_check_pieces : Ss := (.cons (.ifs (.nt (.val (.call "is_number" (.cons (.var 0) (.cons (.int 1) (.cons (.glob "MOST_PIECES") .nil))))))
  (.cons (.raise "BadSizes")
  .nil)
  .nil)
  .nil)

/-- a def or class of the module that keeps sp up to level k -/
structure Has (R : Rt) (k : Nat) (x : Str) (f : Addr) (sp : Sp) : Prop where
  mg : R.mg x = some (.ref f)
  kp : PySem.W.keepIn R.K (.ref f) = true
  ok : CallOk R k f sp
/-- a class of a refusal, without an __init__ of its own -/
structure HasExc (R : Rt) (x : Str) (C : Addr) : Prop where
  mg : R.mg x = some (.ref C)
  ok : ExcOk R.K C
def HasInt (R : Rt) (x : Str) (i : Int) : Prop := ∃ t, R.mg x = some (.int i t)
theorem e_gint {R : Rx} {k : Nat} {W : WX} {σ : L2.St} {H : Hp} {Q : VK} {x : Str} {i : Int} (h1 : HasInt R.toRt x i) (h : Q (.int i) H) : wE R k (.glob x) W σ H Q := by
  obtain ⟨t, e⟩ := h1
  exact e_glob (v := .int i) e ⟨t, rfl⟩ h
def spCheckPieces (K : PySem.W.Frag) (C : Addr) : Sp := fun vs H Q E => ∃ x d, vs = [x] ∧ Dp K H x d ∧ (isNum d 1 12 = true → Q .non H) ∧ (isNum d 1 12 = false → E (.ref C) none H)
theorem w_check_pieces {R : Rx} {k : Nat} {C f : Addr} {vs : List V} {H : Hp} {Q : VK} {X : XK} (N1 : Has R.toRt k "is_number" f (spIsNum R.K)) (N2 : HasInt R.toRt "MOST_PIECES" 12) (N3 : HasExc R.toRt "BadSizes" C) (h : spCheckPieces R.K C vs H Q X) :
    wSs R k b_check_pieces (fun cls d _ H' => X cls d H') { nx := fun _ H' => Q .non H', rt := Q } (L2.start N_check_pieces vs) H := by
  obtain ⟨x, d, rfl, hd, h1, h2⟩ := h
  show wSs R k b_check_pieces _ _ [some x] H
  unfold b_check_pieces
  walk_at "go"
  refine e_call N1.mg N1.kp ?_
  walk_at "go"
  refine e_gint N2 ?_
  walk_at "go"
  refine x_sp N1.ok ⟨x, d, 1, 12, rfl, hd, ?_⟩
  walk_at "go"
  refine x_ite (fun c => ?_) (fun c => ?_)
  · exact q_raise N3.mg N3.ok (h2 (by simpa using c))
  · walk_at "go"
    exact h1 (by simpa using c)
end Zw

set_option Elab.async false
set_option linter.all false
set_option maxRecDepth 100000
set_option maxHeartbeats 4000000
namespace Zw
open PySem PySem.Spec PyProof.Rows L2 TL
/-! ## steps as texts -/
abbrev Stp := Str × List Nat
/-- a number as a text -/
def numS (n : Nat) : Str := Str.ofString (toString ((n : Nat) : Int))
theorem tl_numS (n : Nat) : tl (numS n) = numL n := tl_num n
theorem head_num (n : Nat) (h : 0 < n) : ∃ c r, numL n = c :: r ∧ c ≠ 48 := by
  induction n using Nat.strongRecOn with
  | _ n ih =>
    by_cases hn : n < 10
    · exact ⟨48 + n, [], numL_lt hn, by omega⟩
    · obtain ⟨c, r, e, hc⟩ := ih (n / 10) (by omega) (by omega)
      exact ⟨c, r ++ [48 + n % 10], by rw [numL_step (by omega), e]; rfl, hc⟩
theorem numS_len {n : Nat} (h : n < 10000) : 1 ≤ (numS n).length ∧ (numS n).length ≤ 4 := by
  rw [len_tl, tl_numS]
  refine ⟨?_, numL_len (by decide) h⟩
  have := numL_ne n
  cases e : numL n with
  | nil => exact absurd e this
  | cons _ _ => simp
def figures : Str := "0123456789"
theorem fig_mem {c : Nat} (h : 48 ≤ c ∧ c ≤ 57) : c ∈ tl figures := by
  have : tl figures = [48, 49, 50, 51, 52, 53, 54, 55, 56, 57] := by decide +kernel
  rw [this]
  simp
  omega
theorem num_fig {n c : Nat} (h : c ∈ numL n) : c ∈ tl figures := fig_mem (by
  have := numL_digits n c h
  omega)
theorem num_int {n : Nat} (h : n < 10000) : intText? (numS n) = some (n : Int) := int_num (by
  have := numL_len (n := n) (k := 4) (by decide) h
  omega)
/-- the first sign is no needless 0 -/
theorem num_head {n : Nat} : numS n = "0" ∨ ∃ c r, tl (numS n) = c :: r ∧ c ≠ 48 := by
  by_cases h : n = 0
  · subst h
    exact .inl (by decide +kernel)
  · obtain ⟨c, r, e, hc⟩ := head_num n (by omega)
    exact .inr ⟨c, r, by rw [tl_numS]; exact e, hc⟩
/-! ### rows -/
def rowS (s : Stp) : Str := Txt.join " " (s.1 :: s.2.map numS)
def textS (S : List Stp) : Str := Txt.join "\n" (S.map rowS)
/-- a row grown part by part -/
def growS (r : Str) (ns : List Nat) : Str := ns.foldl (fun r n => r ++ " " ++ numS n) r
theorem tl_sp : tl " " = [32] := by decide +kernel
theorem tl_nl : tl "\n" = [10] := by decide +kernel
theorem joinL_cons (S p : List Nat) (q : List Nat) (r : List (List Nat)) : joinL S ((p ++ S ++ q) :: r) = p ++ (S ++ joinL S (q :: r)) := by
  cases r with
  | nil => simp [joinL]
  | cons a r => simp [joinL]
theorem tl_grow : ∀ (ns : List Nat) (r : Str), tl (growS r ns) = joinL [32] (tl r :: (ns.map numS).map tl)
  | [], r => rfl
  | n :: ns, r => by
    show tl (growS (r ++ " " ++ numS n) ns) = _
    rw [tl_grow ns, tl_append, tl_append, tl_sp]
    exact joinL_cons _ _ _ _
theorem tl_row (s : Stp) : tl (rowS s) = joinL [32] (tl s.1 :: (s.2.map numS).map tl) := by
  unfold rowS
  rw [join_eq, tl_join, tl_sp] <;> rfl
theorem grow_row (s : Stp) : growS s.1 s.2 = rowS s := by
  have h : tl (growS s.1 s.2) = tl (rowS s) := by rw [tl_grow, tl_row]
  rw [← mk_tl (growS s.1 s.2), h, mk_tl]
/-! ### what a step of the law's is -/
def words : List (Str × Nat) := [("make", 3), ("grow", 2), ("drop", 1), ("mirror", 2), ("leave", 1), ("stay", 1), ("read", 2), ("write", 3), ("step", 0), ("room", 1), ("lacks", 0), ("lost", 0), ("volumes", 0), ("places", 1), ("copying", 0), ("lose", 1), ("bring", 2), ("arm", 1), ("again", 0)]
structure Good (s : Stp) : Prop where
  w : (s.1, s.2.length) ∈ words
  n : ∀ n ∈ s.2, n < 10000
theorem words_free : ∀ p ∈ words, 32 ∉ tl p.1 ∧ 10 ∉ tl p.1 ∧ 1 ≤ (tl p.1).length ∧ (tl p.1).length ≤ 7 ∧ p.2 ≤ 3 := by decide +kernel
theorem joinL_mem {S : List Nat} {c : Nat} : ∀ {ps : List (List Nat)}, c ∈ joinL S ps → c ∈ S ∨ ∃ p ∈ ps, c ∈ p
  | [], h => by cases h
  | [p], h => .inr ⟨p, List.mem_singleton.mpr rfl, h⟩
  | p :: q :: r, h => by
    rcases List.mem_append.mp h with h | h
    · exact .inr ⟨p, List.mem_cons_self, h⟩
    · rcases List.mem_append.mp h with h | h
      · exact .inl h
      · rcases joinL_mem h with h | ⟨z, hz, h⟩
        · exact .inl h
        · exact .inr ⟨z, List.mem_cons_of_mem _ hz, h⟩
theorem joinL_len {S : List Nat} : ∀ {ps : List (List Nat)}, (joinL S ps).length ≤ (ps.map (·.length)).sum + ps.length * S.length
  | [] => by simp [joinL]
  | [p] => by simp [joinL]
  | p :: q :: r => by
    have := joinL_len (S := S) (ps := q :: r)
    simp only [joinL, List.length_append, List.map_cons, List.sum_cons, List.length_cons] at this ⊢
    rw [Nat.add_mul, Nat.add_mul] at *
    omega
theorem sum_le {ls : List Nat} {b : Nat} (h : ∀ x ∈ ls, x ≤ b) : ls.sum ≤ ls.length * b := by
  induction ls with
  | nil => simp
  | cons x r ih =>
    have h1 := h x List.mem_cons_self
    have h2 := ih fun y hy => h y (List.mem_cons_of_mem _ hy)
    simp only [List.sum_cons, List.length_cons, Nat.add_mul]
    omega
theorem Good.row_nl {s : Stp} (g : Good s) : 10 ∉ tl (rowS s) := by
  intro h
  rw [tl_row] at h
  rcases joinL_mem h with h | ⟨p, hp, h⟩
  · simp at h
  · rcases List.mem_cons.mp hp with rfl | hp
    · exact (words_free _ g.w).2.1 h
    · obtain ⟨x, hx, rfl⟩ := List.mem_map.mp hp
      obtain ⟨n, hn, rfl⟩ := List.mem_map.mp hx
      rw [tl_numS] at h
      exact numL_free (.inl (by decide)) h
theorem Good.parts {s : Stp} (g : Good s) : ∀ p ∈ s.1 :: s.2.map numS, 32 ∉ tl p := by
  intro p hp
  rcases List.mem_cons.mp hp with rfl | hp
  · exact (words_free _ g.w).1
  · obtain ⟨n, hn, rfl⟩ := List.mem_map.mp hp
    rw [tl_numS]
    exact numL_free (.inl (by decide))
theorem Good.split {s : Stp} (g : Good s) : Txt.split (rowS s) " " = s.1 :: s.2.map numS := split_join tl_sp (by decide +kernel) (by simp) g.parts
theorem Good.few {s : Stp} (g : Good s) : s.2.length ≤ 3 := (words_free _ g.w).2.2.2.2
theorem Good.parts_len {s : Stp} (g : Good s) : ∀ p ∈ s.1 :: s.2.map numS, p.length ≤ 7 := by
  intro p hp
  rcases List.mem_cons.mp hp with rfl | hp
  · rw [len_tl]; exact (words_free _ g.w).2.2.2.1
  · obtain ⟨n, hn, rfl⟩ := List.mem_map.mp hp
    have := numS_len (g.n n hn)
    omega
theorem map_len {ls : List Str} : (ls.map tl).map (·.length) = ls.map (·.length) := by
  rw [List.map_map]
  exact List.map_congr_left fun x _ => (len_tl x).symm
theorem Good.row_len {s : Stp} (g : Good s) : (rowS s).length ≤ 32 := by
  rw [len_tl, tl_row]
  have h1 := joinL_len (S := [32]) (ps := tl s.1 :: (s.2.map numS).map tl)
  have h2 : ((tl s.1 :: (s.2.map numS).map tl).map (·.length)).sum ≤ 4 * 7 := by
    have e : (tl s.1 :: (s.2.map numS).map tl) = (s.1 :: s.2.map numS).map tl := rfl
    rw [e, map_len]
    refine Nat.le_trans (sum_le (b := 7) fun x hx => ?_) ?_
    · obtain ⟨p, hp, rfl⟩ := List.mem_map.mp hx
      exact g.parts_len p hp
    · simp only [List.length_map, List.length_cons]
      have := g.few
      exact Nat.mul_le_mul_right 7 (by omega)
  have h3 : (tl s.1 :: (s.2.map numS).map tl).length ≤ 4 := by
    simp only [List.length_map, List.length_cons]
    have := g.few
    omega
  simp only [List.length_cons, List.length_nil] at h1 h3 ⊢
  omega
theorem Good.row_ne {s : Stp} (g : Good s) : 1 ≤ (rowS s).length := by
  rw [len_tl, tl_row]
  have := (words_free _ g.w).2.2.1
  cases h : (s.2.map numS).map tl with
  | nil => simpa [joinL] using this
  | cons q r =>
    show 1 ≤ (tl s.1 ++ ([32] ++ joinL [32] (q :: r))).length
    rw [List.length_append]
    exact Nat.le_trans this (Nat.le_add_right _ _)
theorem text_split {S : List Stp} (g : ∀ s ∈ S, Good s) (h : S ≠ []) : Txt.split (textS S) "\n" = S.map rowS := by
  refine split_join tl_nl (by decide +kernel) (by simpa using h) fun p hp => ?_
  obtain ⟨s, hs, rfl⟩ := List.mem_map.mp hp
  exact (g s hs).row_nl
theorem tl_text (S : List Stp) : tl (textS S) = joinL [10] ((S.map rowS).map tl) := by
  unfold textS
  rw [join_eq, tl_join, tl_nl]
theorem text_len {S : List Stp} (g : ∀ s ∈ S, Good s) (h : S.length ≤ 9) : (textS S).length ≤ 400 := by
  rw [len_tl, tl_text]
  have h1 := joinL_len (S := [10]) (ps := (S.map rowS).map tl)
  have h2 : (((S.map rowS).map tl).map (·.length)).sum ≤ 9 * 32 := by
    rw [map_len]
    refine Nat.le_trans (sum_le (b := 32) fun x hx => ?_) ?_
    · obtain ⟨p, hp, rfl⟩ := List.mem_map.mp hx
      obtain ⟨s, hs, rfl⟩ := List.mem_map.mp hp
      exact (g s hs).row_len
    · simp only [List.length_map]
      exact Nat.mul_le_mul_right 32 h
  simp only [List.length_map, List.length_cons, List.length_nil] at h1 ⊢
  omega
theorem text_ne {S : List Stp} (g : ∀ s ∈ S, Good s) (h : S ≠ []) : textS S ≠ "" := by
  intro e
  have : tl (textS S) = [] := by rw [e]; decide +kernel
  rw [tl_text] at this
  cases S with
  | nil => exact h rfl
  | cons s r =>
    have h1 := (g s List.mem_cons_self).row_ne
    rw [len_tl] at h1
    cases r with
    | nil =>
      have : tl (rowS s) = [] := this
      rw [this] at h1
      simp at h1
    | cons q r =>
      have : tl (rowS s) ++ ([10] ++ joinL [10] ((rowS q :: r.map rowS).map tl)) = [] := this
      simp at this
theorem text_nil : textS [] = "" := by decide +kernel
end Zw

set_option Elab.async false
set_option linter.all false
set_option maxRecDepth 100000
set_option maxHeartbeats 4000000
namespace Zw
open PySem PySem.Spec PyProof.Rows L2
/-! ## comprehensions -/
section
variable {R : Rx} {k : Nat} {W : WX} {σ : L2.St} {H : Hp} {Q : VK}
/-- behind what is walked: a comprehension of one name, without a test -/
def CompG (R : Rx) (k : Nat) (σ : L2.St) (i : Nat) (elt : E) (Q : VK) (J : It) (H1 : Hp) : Prop := ∀ D, H1 D = none → ∃ W : Nat → Nat → Hp → Prop, (∃ m, W 0 m (upd H1 D (.lst []))) ∧ ∀ t m H, W t m H →
  (J.stop t H ∧ Q (.ref D) H) ∨ (J.go t H ∧ ∃ Nx : Hp → Prop, (∀ H', Nx H' → ∃ m', m' < m ∧ W (t + 1) m' H') ∧ ∀ x H', J.yld t H x H' → wipe ((wipe σ [i]).set i (some x)) [i] = wipe σ [i] ∧
    wE R k elt W0 ((wipe σ [i]).set i (some x)) H' fun y H4 => ∃ acc, H4 D = some (.lst acc) ∧ acc.length < sizeLine ∧ Nx (upd H4 D (.lst (acc ++ [y]))))
theorem e_comp {elt : E} {i : Nat} {it : I} (h : wI R k it W0 σ H fun J H1 => CompG R k σ i elt Q J H1) : wE R k (.comp elt (.nm i) it .yes [i]) W σ H Q := .inl h
/-- .. of two names -/
def CompP (R : Rx) (k : Nat) (σ : L2.St) (i j : Nat) (elt : E) (Q : VK) (J : It) (H1 : Hp) : Prop := ∀ D, H1 D = none → ∃ W : Nat → Nat → Hp → Prop, (∃ m, W 0 m (upd H1 D (.lst []))) ∧ ∀ t m H, W t m H →
  (J.stop t H ∧ Q (.ref D) H) ∨ (J.go t H ∧ ∃ Nx : Hp → Prop, (∀ H', Nx H' → ∃ m', m' < m ∧ W (t + 1) m' H') ∧ ∀ x H', J.yld t H x H' → rUnp R.K [i, j] x (wipe σ [i, j]) H' fun σ2 H2 => wipe σ2 [i, j] = wipe σ [i, j] ∧
    wE R k elt W0 σ2 H2 fun y H4 => ∃ acc, H4 D = some (.lst acc) ∧ acc.length < sizeLine ∧ Nx (upd H4 D (.lst (acc ++ [y]))))
theorem e_compP {elt : E} {i j : Nat} {it : I} (h : wI R k it W0 σ H fun J H1 => CompP R k σ i j elt Q J H1) : wE R k (.comp elt (.tp [i, j]) it .yes [i, j]) W σ H Q := .inl h
theorem wipe1 (σ : L2.St) (i : Nat) (x : V) : wipe ((wipe σ [i]).set i (some x)) [i] = wipe σ [i] := by
  show ((σ.set i none).set i (some x)).set i none = σ.set i none
  rw [List.set_set, List.set_set]
/-- an element's end: y is put behind acc -/
def CompN (D t : Nat) (L : Nat → List V → List HP) : VK := fun y H4 => ∃ acc, H4 D = some (.lst acc) ∧ acc.length < sizeLine ∧ ∃ acc', acc'.length = t + 1 ∧ SL (pt D (.lst acc') :: L (t + 1) acc') (upd H4 D (.lst (acc ++ [y])))
theorem CompN.of {D t : Nat} {L : Nat → List V → List HP} {acc : List V} {y : V} {H4 : Hp} (ha : acc.length = t) (b : t < sizeLine) (x : SL (pt D (.lst acc) :: L (t + 1) (acc ++ [y])) H4) : CompN D t L y H4 :=
  ⟨acc, SL.get (.head _) x, by omega, acc ++ [y], by simp [ha], x.wr .hd rfl⟩
/-- n turns; L t acc: what stands behind t of them, beside the new list -/
theorem k_gen {elt : E} {i n : Nat} {J : It} (L : Nat → List V → List HP) (x : SL (L 0 []) H)
    (st : ∀ t acc D H, t < n → acc.length = t → SL (pt D (.lst acc) :: L t acc) H → J.go t H ∧ ∀ v H', J.yld t H v H' → wE R k elt W0 ((wipe σ [i]).set i (some v)) H' (CompN D t L))
    (en : ∀ acc D H, acc.length = n → SL (pt D (.lst acc) :: L n acc) H → J.stop n H ∧ Q (.ref D) H) : CompG R k σ i elt Q J H := by
  intro D hD
  refine ⟨fun t m H => t + m = n ∧ ∃ acc, acc.length = t ∧ SL (pt D (.lst acc) :: L t acc) H, ⟨n, by omega, [], rfl, x.new _ hD⟩, fun t m H hw => ?_⟩
  obtain ⟨hm, acc, ha, hx⟩ := hw
  by_cases ht : t < n
  · obtain ⟨h1, h2⟩ := st t acc D H ht ha hx
    exact .inr ⟨h1, fun H' => ∃ acc, acc.length = t + 1 ∧ SL (pt D (.lst acc) :: L (t + 1) acc) H', fun H' hn => ⟨m - 1, by omega, by omega, hn⟩, fun v H' hy => ⟨wipe1 _ _ _, h2 v H' hy⟩⟩
  · have : t = n := by omega
    subst this
    exact .inl (en acc D H ha hx)
/-- over a list that stays as it is -/
theorem k_lst {elt : E} {i : Nat} {p : Addr} {xs : List V} {P : Prop} (L : Nat → List V → List HP) (x : SL (L 0 []) H) (sq : ∀ t acc H, SL (L t acc) H → SqL R.K H p xs)
    (st : ∀ t acc D H v, xs[t]? = some v → acc.length = t → SL (pt D (.lst acc) :: L t acc) H → wE R k elt W0 ((wipe σ [i]).set i (some v)) H (CompN D t L))
    (en : ∀ acc D H, acc.length = xs.length → SL (pt D (.lst acc) :: L xs.length acc) H → Q (.ref D) H) :
    (∃ q, V.ref p = .ref q ∧ (∃ xs, SqL R.K H q xs) ∧ CompG R k σ i elt Q (Itl R.K q) H) ∨ P := by
  refine .inl ⟨p, rfl, ⟨xs, sq _ _ _ x⟩, k_gen (n := xs.length) L x (fun t acc D H ht ha hx => ?_) fun acc D H ha hx => ?_⟩
  · have s1 := sq _ _ _ hx.tail
    refine ⟨⟨xs, xs[t], s1, List.getElem?_eq_getElem ht⟩, fun v H' hy => ?_⟩
    obtain ⟨rfl, hv⟩ := hy
    exact st t acc D _ v (hv xs s1) ha hx
  · exact ⟨⟨xs, sq _ _ _ hx.tail, Nat.le_refl _⟩, en acc D H ha hx⟩
/-- over a tuple -/
theorem k_tup {elt : E} {i : Nat} {p : Addr} {xs : List V} {P P' : Prop} (L : Nat → List V → List HP) (x : SL (L 0 []) H) (sq : ∀ t acc H, SL (L t acc) H → SqT R.K H p xs)
    (st : ∀ t acc D H v, xs[t]? = some v → acc.length = t → SL (pt D (.lst acc) :: L t acc) H → wE R k elt W0 ((wipe σ [i]).set i (some v)) H (CompN D t L))
    (en : ∀ acc D H, acc.length = xs.length → SL (pt D (.lst acc) :: L xs.length acc) H → Q (.ref D) H) :
    P' ∨ (∃ q, V.ref p = .ref q ∧ (∃ xs, SqT R.K H q xs) ∧ CompG R k σ i elt Q (Itt R.K q) H) ∨ P := by
  refine .inr (.inl ⟨p, rfl, ⟨xs, sq _ _ _ x⟩, k_gen (n := xs.length) L x (fun t acc D H ht ha hx => ?_) fun acc D H ha hx => ?_⟩)
  · have s1 := sq _ _ _ hx.tail
    refine ⟨⟨xs, xs[t], s1, List.getElem?_eq_getElem ht⟩, fun v H' hy => ?_⟩
    obtain ⟨rfl, hv⟩ := hy
    exact st t acc D _ v (hv xs s1) ha hx
  · exact ⟨⟨xs, sq _ _ _ hx.tail, Nat.le_refl _⟩, en acc D H ha hx⟩
/-- over a text -/
theorem k_str {elt : E} {i : Nat} {z : Str} {P1 P2 P3 : Prop} (L : Nat → List V → List HP) (x : SL (L 0 []) H)
    (st : ∀ t acc D H c, z.cps[t]? = some c → acc.length = t → SL (pt D (.lst acc) :: L t acc) H → wE R k elt W0 ((wipe σ [i]).set i (some (.str ⟨#[c]⟩))) H (CompN D t L))
    (en : ∀ acc D H, acc.length = z.cps.size → SL (pt D (.lst acc) :: L z.cps.size acc) H → Q (.ref D) H) :
    P1 ∨ P2 ∨ P3 ∨ (∃ y, V.str z = .str y ∧ CompG R k σ i elt Q (Its y) H) := by
  refine .inr (.inr (.inr ⟨z, rfl, k_gen (n := z.cps.size) L x (fun t acc D H ht ha hx => ?_) fun acc D H ha hx => ?_⟩))
  · refine ⟨ht, fun v H' hy => ?_⟩
    obtain ⟨rfl, c, hc, rfl⟩ := hy
    exact st t acc D _ c hc ha hx
  · exact ⟨Nat.le_refl _, en acc D H ha hx⟩
/-- over range(n) -/
theorem k_rng {elt : E} {i n : Nat} (L : Nat → List V → List HP) (b : n < 2 ^ 62) (x : SL (L 0 []) H)
    (st : ∀ t acc D H, t < n → acc.length = t → SL (pt D (.lst acc) :: L t acc) H → wE R k elt W0 ((wipe σ [i]).set i (some (.int (t : Nat)))) H (CompN D t L))
    (en : ∀ acc D H, acc.length = n → SL (pt D (.lst acc) :: L n acc) H → Q (.ref D) H) :
    ∃ j : Int, V.int (n : Nat) = .int j ∧ -(2 ^ 62) ≤ j ∧ j < 2 ^ 62 ∧ CompG R k σ i elt Q (Itr 0 j.toNat) H := by
  refine ⟨n, rfl, by omega, by omega, k_gen (n := n) L x (fun t acc D H ht ha hx => ?_) fun acc D H ha hx => ?_⟩
  · refine ⟨by show t < ((n : Int)).toNat; omega, fun v H' hy => ?_⟩
    obtain ⟨rfl, rfl⟩ := hy
    have : (0 : Int) + (t : Int) = (t : Int) := by omega
    rw [this]
    exact st t acc D _ ht ha hx
  · exact ⟨by show ((n : Int)).toNat ≤ n; omega, en acc D H ha hx⟩
/-- over enumerate(a list), two names -/
theorem k_enum {elt : E} {i j : Nat} {p : Addr} {xs : List V} (hij : i ≠ j) (L : Nat → List V → List HP) (x : SL (L 0 []) H) (sq : ∀ t acc H, SL (L t acc) H → SqL R.K H p xs)
    (st : ∀ t acc D H v, xs[t]? = some v → acc.length = t → SL (pt D (.lst acc) :: L t acc) H → wE R k elt W0 (((wipe σ [i, j]).set i (some (.int (t : Nat)))).set j (some v)) H (CompN D t L))
    (en : ∀ acc D H, acc.length = xs.length → SL (pt D (.lst acc) :: L xs.length acc) H → Q (.ref D) H) :
    ∃ q ys, V.ref p = .ref q ∧ SqL R.K H q ys ∧ CompP R k σ i j elt Q (Ite R.K q) H := by
  refine ⟨p, xs, rfl, sq _ _ _ x, fun D hD => ?_⟩
  refine ⟨fun t m H => t + m = xs.length ∧ ∃ acc, acc.length = t ∧ SL (pt D (.lst acc) :: L t acc) H, ⟨xs.length, by omega, [], rfl, x.new _ hD⟩, fun t m H hw => ?_⟩
  obtain ⟨hm, acc, ha, hx⟩ := hw
  have s1 := sq _ _ _ hx.tail
  by_cases ht : t < xs.length
  · refine .inr ⟨⟨xs, xs[t], s1, List.getElem?_eq_getElem ht⟩, fun H' => ∃ acc, acc.length = t + 1 ∧ SL (pt D (.lst acc) :: L (t + 1) acc) H', fun H' hn => ⟨m - 1, by omega, by omega, hn⟩, fun v H' hy => ?_⟩
    obtain ⟨T, y, rfl, hT, rfl, hv⟩ := hy
    have hx' : SL (pt D (.lst acc) :: L t acc) (upd H T (.tup [.int (t : Nat), y])) := (hx.new _ hT).tail
    refine ⟨T, [.int (t : Nat), y], rfl, .inl (.inl (.inl upd_same)), rfl, ?_⟩
    refine ⟨?_, st t acc D _ y (hv xs s1) ha hx'⟩
    show ((((((σ.set j none).set i none).set i (some _)).set j (some _))).set j none).set i none = (σ.set j none).set i none
    have c : ∀ (l : L2.St) a, (l.set i a).set j none = (l.set j none).set i a := fun l a => List.set_comm _ _ hij
    simp only [List.set_set, c]
  · have : t = xs.length := by omega
    subst this
    exact .inl ⟨⟨xs, s1, Nat.le_refl _⟩, en acc D H ha hx⟩
end
end Zw

set_option Elab.async false
set_option linter.all false
set_option maxRecDepth 100000
set_option maxHeartbeats 4000000
namespace Zw
open PySem PySem.Spec PyProof.Rows L2
local macro_rules | `(tactic| walk_at "mem") => `(tactic| (first | exact List.Mem.head _ | (apply List.Mem.tail; walk_at "mem")))
local macro_rules | `(tactic| walk_at "rp") => `(tactic| (first | exact Rp.hd | (apply Rp.tl; walk_at "rp")))
local macro_rules | `(tactic| walk_at "pk") => `(tactic| (first | exact Pk.hd | (apply Pk.tl; walk_at "pk")))
local macro_rules | `(tactic| walk_at "go1") => `(tactic| with_reducible (first
  | refine q_set ?_ | refine q_exp ?_ | refine q_doc ?_ | refine q_pass ?_ | refine q_ret ?_ | refine q_retN ?_ | refine q_brk ?_ | refine q_cont ?_ | refine q_if ?_ | refine q_par ?_ | refine q_setFld ?_ | refine q_setSub ?_ | refine q_for ?_
  | refine e_int ?_ | refine e_str ?_ | refine e_bl ?_ | refine e_non ?_ | refine e_bin ?_ | refine e_neg ?_ | refine e_nt ?_ | refine e_cmp ?_ | refine e_chain ?_ | refine e_and ?_ | refine e_or ?_ | refine e_ife ?_ | refine e_fld ?_ | refine e_sub ?_ | refine e_tup ?_ | refine e_lst ?_ | refine e_bi ?_ | refine e_meth ?_
  | refine es_nil ?_ | refine es_cons ?_ | refine t_yes ?_ | refine t_nt ?_ | refine t_and ?_ | refine t_or ?_ | refine t_cmp ?_ | refine t_val ?_ | refine i_seq ?_ | refine i_rng ?_
  | refine x_bl ?_ | refine x_in ?_ | refine tr_bl ?_ | refine tr_int ?_ | refine tr_non ?_
  | refine b_add ?_ | refine b_sub ?_ | refine c_lt ?_ | refine c_le ?_ | refine c_gt ?_ | refine c_ge ?_ | refine c_is ?_ | refine c_isnt ?_ | refine i_intB ?_ | refine c_eqI ?_ | refine c_neI ?_ | refine c_eqB ?_ | refine c_neB ?_ | refine c_eqS ?_ | refine q_nil ?_ | refine x_itt ?_ | refine x_iff ?_))
local macro_rules | `(tactic| walk_at "go2") => `(tactic| (first
  | ((with_reducible refine' e_var ?hg ?hh); (case hg => rfl))
  | ((with_reducible refine' s_0 ?hx ?hm ?hg ?hh); (case hx => assumption); (case hm => walk_at "mem"); (case hg => rfl))
  | ((with_reducible refine' s_1 ?hx ?hm ?hg ?hh); (case hx => assumption); (case hm => walk_at "mem"); (case hg => rfl))
  | ((with_reducible refine' s_2 ?hx ?hm ?hg ?hh); (case hx => assumption); (case hm => walk_at "mem"); (case hg => rfl))
  | ((with_reducible refine' p_0 ?hx ?hr ?hb ?hh); (case hx => assumption); (case hr => walk_at "rp"); (case hb => first | (simp; done) | decide); intros)
  | ((with_reducible refine' p_1 ?hx ?hr ?hb ?hh); (case hx => assumption); (case hr => walk_at "rp"); (case hb => first | (simp; done) | decide); intros)
  | ((with_reducible refine' n_lst ?hx ?hb ?hh); (case hx => assumption); (case hb => first | decide | (simp only [List.length_cons, List.length_nil]; decide)); intros)
  | ((with_reducible refine' n_tup ?hx ?hb ?hh); (case hx => assumption); (case hb => first | decide | (simp only [List.length_cons, List.length_nil]; decide)); intros)))
local macro_rules | `(tactic| walk_at "go") => `(tactic| repeat (first | walk_at "go1" | walk_at "go2"))
local macro_rules | `(tactic| walk_at "go2") => `(tactic| (first
  | ((with_reducible refine' e_ty ?hg ?hh); (case hg => rfl))
  | ((with_reducible refine' isi_dp ok_bl ?hx ?hh); (case hx => assumption))
  | ((with_reducible refine' isi_dp ok_int ?hx ?hh); (case hx => assumption))
  | ((with_reducible refine' isi_dp ok_str ?hx ?hh); (case hx => assumption))
  | ((with_reducible refine' isi_dp ok_tup ?hx ?hh); (case hx => assumption))
  | ((with_reducible refine' isi_dp ok_lst ?hx ?hh); (case hx => assumption))
  | ((with_reducible refine' x_dt ?hc ?hh); (case hc => rfl))
  | ((with_reducible refine' x_df ?hc ?hh); (case hc => rfl))))
/-! ## steps in the heap; written -/
def stepV (s : Stp) : List V := .str s.1 :: s.2.map fun n => .int (n : Nat)
/-- xs: the tuples of the steps S -/
def StepsA (xs : List V) (S : List Stp) : HP := fun h => xs.length = S.length ∧ ∀ (i : Nat) (s : Stp), S[i]? = some s → ∃ a, xs[i]? = some (V.ref a) ∧ h a = some (.tup (stepV s))
theorem StepsA.up {xs : List V} {S : List Stp} {h H : Hp} (s : Sub h H) (x : StepsA xs S h) : StepsA xs S H := ⟨x.1, fun i s' e => by
  obtain ⟨a, h1, h2⟩ := x.2 i s' e
  exact ⟨a, h1, s a _ h2⟩⟩
theorem SL.up {A : HP} (mono : ∀ h H, Sub h H → A h → A H) : ∀ {l : List HP} {H : Hp}, A ∈ l → SL l H → A H
  | B :: l, H, m, ⟨h, g, a, b, d, x, y⟩ => by
    cases m with
    | head => exact mono h H a x
    | tail _ m => exact mono g H b (SL.up mono m y)
theorem SL.add {P : Prop} {l : List HP} {H : Hp} (p : P) (x : SL l H) : SL ((fun _ => P) :: l) H := ⟨fun _ => none, H, (fun _ _ e => by cases e), Sub.refl _, (fun _ _ _ e => by cases e), p, x⟩
/-- a thing that is fixed stands beside the rest -/
theorem SL.mk_fix {p : Addr} {o : HO} {l : List HP} {H : Hp} (f : fixO o = true) (e : H p = some o) (x : SL l H) : SL (pt p o :: l) H :=
  ⟨one p o, H, (fun a u q => by obtain ⟨rfl, rfl⟩ := one_some q; exact e), Sub.refl _, (fun a u v q r => by obtain ⟨rfl, rfl⟩ := one_some q; exact f), one_at, x⟩
theorem SL.swap3 {A B C : HP} {l : List HP} {H : Hp} (x : SL (A :: B :: C :: l) H) : SL (C :: A :: B :: l) H := x.perm (((List.Perm.swap C B l).cons A).trans (List.Perm.swap C A _))
theorem SL.step {q : Addr} {s : Stp} {xs : List V} {S : List Stp} {l : List HP} {H : Hp} (x : SL (pt q (.tup (stepV s)) :: StepsA xs S :: l) H) : SL (StepsA (xs ++ [.ref q]) (S ++ [s]) :: l) H := by
  refine (SL.unnest (m := [_, _]) x).imp fun h y => ?_
  have e1 : h q = some (.tup (stepV s)) := SL.get (.head _) y
  have e2 : StepsA xs S h := SL.up (fun _ _ => StepsA.up) (.tail _ (.head _)) y
  refine ⟨by simp [e2.1], fun i s' e => ?_⟩
  by_cases hi : i < S.length
  · rw [List.getElem?_append_left hi] at e
    obtain ⟨a, h1, h2⟩ := e2.2 i s' e
    exact ⟨a, by rw [List.getElem?_append_left (by rw [e2.1]; exact hi)]; exact h1, h2⟩
  · have hi' : i = S.length := by
      have := (List.getElem?_eq_some_iff.mp e).1
      simp at this
      omega
    subst hi'
    rw [List.getElem?_append_right (Nat.le_refl _)] at e
    simp at e
    subst e
    exact ⟨q, by rw [List.getElem?_append_right (by rw [e2.1]; exact Nat.le_refl _), e2.1]; simp, e1⟩
theorem StepsA.nil {l : List HP} {H : Hp} (x : SL l H) : SL (StepsA [] [] :: l) H := ⟨fun _ => none, H, (fun _ _ e => by cases e), Sub.refl _, (fun _ _ _ e => by cases e), ⟨rfl, fun _ _ e => by simp at e⟩, x⟩
theorem take_next {α : Type _} {l acc : List α} {t : Nat} {y : α} (e : acc = l.take t) (h : l[t]? = some y) : acc ++ [y] = l.take (t + 1) := by
  rw [List.take_add_one, h, e]
  rfl
/-- the parts of a row -/
def partsS (s : Stp) : List Str := s.1 :: s.2.map numS
theorem part_at {s : Stp} {t : Nat} {v : V} (h : (stepV s)[t]? = some v) : (t = 0 ∧ v = .str s.1 ∧ (partsS s)[t]? = some s.1) ∨ ∃ n ∈ s.2, v = .int (n : Nat) ∧ (partsS s)[t]? = some (numS n) := by
  cases t with
  | zero =>
    simp [stepV] at h
    exact .inl ⟨rfl, h.symm, rfl⟩
  | succ t =>
    simp only [stepV, List.getElem?_cons_succ, List.getElem?_map] at h
    obtain ⟨n, h1, h2⟩ := Option.map_eq_some_iff.mp h
    refine .inr ⟨n, List.mem_of_getElem? h1, h2.symm, ?_⟩
    simp [partsS, h1]
theorem stepV_len (s : Stp) : (stepV s).length = (partsS s).length := by simp [stepV, partsS]
section
variable {K : PySem.W.Frag} {xc : XC} {H : Hp} {Q : VK}
theorem i_strI {n : Nat} (b : n < 10000) (h : Q (.str (numS n)) H) : rBi K xc .str [.int (n : Nat)] H Q := .inl ⟨(n : Int), rfl, by
  have : ((n : Int)).natAbs = n := by omega
  rw [this]
  by_cases z : n = 0
  · subst z; decide
  · exact Nat.lt_trans ((Nat.log2_lt z).mpr (show n < 2 ^ 14 by omega)) (by decide), h⟩
theorem i_strS {z : Str} (h : Q (.str z) H) : rBi K xc .str [.str z] H Q := .inr ⟨z, rfl, h⟩
theorem m_join {z : Str} {p : Addr} {ys : List Str} (e : SqL K H p (ys.map V.str)) (b : (ys.map (·.length)).sum + ys.length * z.length ≤ 16777216) (h : Q (.str (Txt.join z ys)) H) : rMt K .join (.str z) [.ref p] H Q := ⟨z, p, ys, rfl, rfl, .inl e, b, h⟩
theorem ty_s {z : Str} : tyV K "str" (.str z) H := rfl
end
theorem len1 : ("\n" : Str).length = 1 ∧ (" " : Str).length = 1 := by decide +kernel
theorem join_fits {ys : List Str} {b m : Nat} {z : Str} (hz : z.length = 1) (h : ∀ y ∈ ys, y.length ≤ b) (hl : ys.length ≤ m) (hb : m * b + m ≤ 16777216) : (ys.map (·.length)).sum + ys.length * z.length ≤ 16777216 := by
  have h1 := sum_le (ls := ys.map (·.length)) (b := b) fun x hx => by
    obtain ⟨y, hy, rfl⟩ := List.mem_map.mp hx
    exact h y hy
  rw [List.length_map] at h1
  have h2 : ys.length * b ≤ m * b := Nat.mul_le_mul_right b hl
  rw [hz]
  omega
def N_written : List Str := ["steps", "part", "step"]
def b_written : Ss := (.cons (.ret (.meth (.str "\n") "join" [.join] (.cons (.comp (.meth (.str " ") "join" [.join] (.cons (.comp (.callB .str (.cons (.var 1) .nil)) (.nm 1) (.seq (.var 2)) .yes [1]) .nil)) (.nm 2) (.seq (.var 0)) .yes [2]) .nil)))
  .nil)
def spWritten : Sp := fun vs H Q _ => ∃ p xs S l, vs = [.ref p] ∧ (∀ s ∈ S, Good s) ∧ S.length ≤ 9 ∧ SL l H ∧ pt p (.lst xs) ∈ l ∧ StepsA xs S ∈ l ∧ ∀ H', SL l H' → Q (.str (textS S)) H'
theorem w_written {R : Rx} {k : Nat} {vs : List V} {H : Hp} {Q : VK} {X : XK} (h : spWritten vs H Q X) : wSs R k b_written (fun cls d _ H' => X cls d H') { nx := fun _ H' => Q .non H', rt := Q } (L2.start N_written vs) H := by
  obtain ⟨p, xs, S, l, rfl, g, hS, x, mp, mS, hq⟩ := h
  show wSs R k b_written _ _ [some (.ref p), none, none] H
  unfold b_written
  have sl0 : (24 : Nat) < sizeLine := by rw [sizeLine_eq]; decide
  walk_at "go"
  refine x_bm .join (by decide) ty_s (es_cons (e_comp ?_))
  walk_at "go"
  refine k_lst (fun t acc => (fun _ => acc = ((S.map rowS).map V.str).take t) :: l) (x.add (by simp)) (fun t acc H y => sq_l (SL.get (.tail _ mp) y)) (fun t acc D H1 v hv ha y => ?_) fun acc D H1 ha y => ?_
  · have y' := y.swap
    obtain ⟨hacc, y'⟩ := y'.fact
    have hs := SL.up (fun _ _ => StepsA.up) (.tail _ mS) y'
    have ht : t < S.length := by rw [← hs.1]; exact (List.getElem?_eq_some_iff.mp hv).1
    obtain ⟨a, h1, h2⟩ := hs.2 t S[t] (List.getElem?_eq_getElem ht)
    rw [hv] at h1
    cases h1
    have gs := g S[t] (List.getElem_mem ht)
    generalize hs' : S[t] = s at *
    have hst : (S.map rowS)[t]? = some (rowS s) := by rw [List.getElem?_map, List.getElem?_eq_getElem ht, hs']; rfl
    show wE R k _ W0 [some (.ref p), none, some (.ref a)] H1 _
    walk_at "go"
    refine x_bm .join (by decide) ty_s (es_cons (e_comp ?_))
    walk_at "go"
    refine k_tup (fun t' acc' => (fun _ => acc' = ((partsS s).map V.str).take t') :: pt a (.tup (stepV s)) :: pt D (.lst acc) :: l) ((SL.mk_fix rfl h2 y').add (by simp)) (fun t acc H y => (Or.inl (.inl (SL.get (.tail _ (.head _)) y)))) (fun t' acc' D' H2 v' hv' ha' z => ?_) fun acc' D' H2 ha' z => ?_
    · obtain ⟨hacc', z'⟩ := z.swap.fact
      have tb : t' < sizeLine := by
        have h1 := (List.getElem?_eq_some_iff.mp hv').1
        have h2 := gs.few
        simp [stepV] at h1
        omega
      show wE R k _ W0 [some (.ref p), some v', some (.ref a)] H2 _
      walk_at "go"
      rcases part_at hv' with ⟨rfl, rfl, hp⟩ | ⟨n, hn, rfl, hp⟩
      · exact i_strS (CompN.of ha' tb (((z'.swap).add (take_next hacc' (by rw [List.getElem?_map, hp]; rfl))).swap3))
      · exact i_strI (gs.n n hn) (CompN.of ha' tb (((z'.swap).add (take_next hacc' (by rw [List.getElem?_map, hp]; rfl))).swap3))
    · obtain ⟨hacc', z'⟩ := z.swap.fact
      rw [List.take_of_length_le (by rw [stepV_len, List.length_map]; exact Nat.le_refl _)] at hacc'
      subst hacc'
      walk_at "go"
      refine m_join (sq_l (SL.get (.head _) z')) (join_fits (m := 4) (b := 7) len1.2 gs.parts_len (by have := gs.few; simp [partsS]; omega) (by decide)) ?_
      exact CompN.of ha (by omega) ((z'.tail.tail.add (P := acc ++ [V.str (rowS s)] = _) (take_next hacc (by rw [List.getElem?_map, hst]; rfl))).swap)
  · obtain ⟨hacc, y'⟩ := y.swap.fact
    have hs := SL.up (fun _ _ => StepsA.up) (.tail _ mS) y'
    rw [List.take_of_length_le (by rw [hs.1, List.length_map, List.length_map]; exact Nat.le_refl _)] at hacc
    subst hacc
    walk_at "go"
    refine m_join (sq_l (SL.get (.head _) y')) (join_fits (m := 9) (b := 32) len1.1 (fun q hq => ?_) (by simpa using hS) (by decide)) ?_
    · obtain ⟨s, hs, rfl⟩ := List.mem_map.mp hq
      exact (g s hs).row_len
    · walk_at "go"
      exact hq _ y'.tail

end Zw

set_option Elab.async false
set_option linter.all false
set_option maxRecDepth 100000
set_option maxHeartbeats 4000000
namespace Zw
open PySem PySem.Spec PyProof.Rows L2
local macro_rules | `(tactic| walk_at "mem") => `(tactic| (first | exact List.Mem.head _ | (apply List.Mem.tail; walk_at "mem")))
local macro_rules | `(tactic| walk_at "rp") => `(tactic| (first | exact Rp.hd | (apply Rp.tl; walk_at "rp")))
local macro_rules | `(tactic| walk_at "pk") => `(tactic| (first | exact Pk.hd | (apply Pk.tl; walk_at "pk")))
local macro_rules | `(tactic| walk_at "go1") => `(tactic| with_reducible (first
  | refine q_set ?_ | refine q_exp ?_ | refine q_doc ?_ | refine q_pass ?_ | refine q_ret ?_ | refine q_retN ?_ | refine q_brk ?_ | refine q_cont ?_ | refine q_if ?_ | refine q_par ?_ | refine q_setFld ?_ | refine q_setSub ?_ | refine q_for ?_
  | refine e_int ?_ | refine e_str ?_ | refine e_bl ?_ | refine e_non ?_ | refine e_bin ?_ | refine e_neg ?_ | refine e_nt ?_ | refine e_cmp ?_ | refine e_chain ?_ | refine e_and ?_ | refine e_or ?_ | refine e_ife ?_ | refine e_fld ?_ | refine e_sub ?_ | refine e_tup ?_ | refine e_lst ?_ | refine e_bi ?_ | refine e_meth ?_
  | refine es_nil ?_ | refine es_cons ?_ | refine t_yes ?_ | refine t_nt ?_ | refine t_and ?_ | refine t_or ?_ | refine t_cmp ?_ | refine t_val ?_ | refine i_seq ?_ | refine i_rng ?_
  | refine x_bl ?_ | refine x_in ?_ | refine tr_bl ?_ | refine tr_int ?_ | refine tr_non ?_
  | refine b_add ?_ | refine b_sub ?_ | refine c_lt ?_ | refine c_le ?_ | refine c_gt ?_ | refine c_ge ?_ | refine c_is ?_ | refine c_isnt ?_ | refine i_intB ?_ | refine c_eqI ?_ | refine c_neI ?_ | refine c_eqB ?_ | refine c_neB ?_ | refine c_eqS ?_ | refine q_nil ?_ | refine x_itt ?_ | refine x_iff ?_))
local macro_rules | `(tactic| walk_at "go2") => `(tactic| (first
  | ((with_reducible refine' e_var ?hg ?hh); (case hg => rfl))
  | ((with_reducible refine' s_0 ?hx ?hm ?hg ?hh); (case hx => assumption); (case hm => walk_at "mem"); (case hg => rfl))
  | ((with_reducible refine' s_1 ?hx ?hm ?hg ?hh); (case hx => assumption); (case hm => walk_at "mem"); (case hg => rfl))
  | ((with_reducible refine' s_2 ?hx ?hm ?hg ?hh); (case hx => assumption); (case hm => walk_at "mem"); (case hg => rfl))
  | ((with_reducible refine' p_0 ?hx ?hr ?hb ?hh); (case hx => assumption); (case hr => walk_at "rp"); (case hb => first | (simp; done) | decide); intros)
  | ((with_reducible refine' p_1 ?hx ?hr ?hb ?hh); (case hx => assumption); (case hr => walk_at "rp"); (case hb => first | (simp; done) | decide); intros)
  | ((with_reducible refine' n_lst ?hx ?hb ?hh); (case hx => assumption); (case hb => first | decide | (simp only [List.length_cons, List.length_nil]; decide)); intros)
  | ((with_reducible refine' n_tup ?hx ?hb ?hh); (case hx => assumption); (case hb => first | decide | (simp only [List.length_cons, List.length_nil]; decide)); intros)))
local macro_rules | `(tactic| walk_at "go") => `(tactic| repeat (first | walk_at "go1" | walk_at "go2"))
local macro_rules | `(tactic| walk_at "go2") => `(tactic| (first
  | ((with_reducible refine' e_ty ?hg ?hh); (case hg => rfl))
  | ((with_reducible refine' isi_dp ok_bl ?hx ?hh); (case hx => assumption))
  | ((with_reducible refine' isi_dp ok_int ?hx ?hh); (case hx => assumption))
  | ((with_reducible refine' isi_dp ok_str ?hx ?hh); (case hx => assumption))
  | ((with_reducible refine' isi_dp ok_tup ?hx ?hh); (case hx => assumption))
  | ((with_reducible refine' isi_dp ok_lst ?hx ?hh); (case hx => assumption))
  | ((with_reducible refine' x_dt ?hc ?hh); (case hc => rfl))
  | ((with_reducible refine' x_df ?hc ?hh); (case hc => rfl))))
/-! ## read -/
def HasStr (R : Rt) (x : Str) (z : Str) : Prop := ∃ t, R.mg x = some (.str z t)
section
variable {R : Rx} {k : Nat} {W : WX} {σ : L2.St} {H : Hp} {Q : VK} {D : Ends} {r : Ss}
theorem e_gstr {x : Str} {z : Str} (h1 : HasStr R.toRt x z) (h : Q (.str z) H) : wE R k (.glob x) W σ H Q := by
  obtain ⟨t, e⟩ := h1
  exact e_glob (v := .str z) e ⟨t, rfl⟩ h
theorem i_enum {e : E} {S : It → Hp → Prop} (h : wE R k e W σ H fun x H1 => ∃ a xs, x = .ref a ∧ SqL R.K H1 a xs ∧ S (Ite R.K a) H1) : wI R k (.enum e) W σ H S := h
theorem q_unpS {i j : Nat} {e : E} (h : wE R k e W σ H fun v H1 => ∃ p x rest, v = .ref p ∧ SqL R.K H1 p (x :: rest) ∧ ∀ q, H1 q = none → wSs R k r W D ((σ.set i (some x)).set j (some (.ref q))) (upd H1 q (.lst rest))) : wSs R k (.cons (.unpS i j e) r) W D σ H := h
theorem e_tupS {a b : E} (h : wE R k a W σ H fun x H1 => wE R k b W σ H1 fun y H2 => ∃ p xs, y = .ref p ∧ (SqT R.K H2 p xs ∨ SqL R.K H2 p xs) ∧ (x :: (xs ++ [])).length ≤ sizeLine ∧ ∀ p, H2 p = none → Q (.ref p) (upd H2 p (.tup (x :: (xs ++ []))))) : wE R k (.tupS a b) W σ H Q := h
theorem e_inD {i : Nat} {x : Str} {z : Str} {p : Addr} {b ng : Bool} (h1 : R.mg x = some (.ref p)) (h2 : KHas R.K R.w p z b) (hv : σ[i]? = some (some (.str z))) (h : Q (.bl (if ng = true then !b else b)) H) : wE R k (.inG ng (.var i) x) W σ H Q :=
  ⟨.str z, hv, .ref p, _, h1, rfl, .inl ⟨p, z, b, rfl, rfl, h2, h⟩⟩
theorem e_ixD {i : Nat} {x : Str} {z : Str} {p : Addr} {v : V} (h1 : R.mg x = some (.ref p)) (h2 : KDct R.K R.w p z v) (hv : σ[i]? = some (some (.str z))) (h : Q v H) : wE R k (.subG x (.var i)) W σ H Q :=
  ⟨.ref p, _, h1, rfl, .str z, hv, .inl ⟨p, z, v, rfl, rfl, h2, h⟩⟩
end
section
variable {K : PySem.W.Frag} {xc : XC} {H : Hp} {Q : VK} {l : List HP}
theorem len_s {z : Str} (b : z.length ≤ sizeLine) : LenV K (.str z) H z.length := ⟨b, rfl⟩
theorem s_str0 {z : Str} {c : Nat} {r : List Nat} (b : z.length ≤ sizeLine) (e : TL.tl z = c :: r) (h : Q (.str ⟨#[c]⟩) H) : rSubs K (.str z) (.int 0) H Q :=
  .inl (.inr (.inr ⟨z, ((0 : Nat) : Int), c, rfl, rfl, b, by
    have e' : z.cps.toList = c :: r := e
    unfold atI
    rw [e', ixN_nat (by simp)]
    rfl, h⟩))
theorem m_split {a b : Str} (hb : (b.length == 0) = false) (ha : a.length + 2 ≤ sizeLine) (x : SL l H) (h : ∀ p H', SL (pt p (.lst ((Txt.split a b).map V.str)) :: l) H' → Q (.ref p) H') : rMt K .split (.str a) [.str b] H Q := ⟨a, b, rfl, rfl, hb, ha, fun p n => h p _ (x.new _ n)⟩
theorem i_all {p : Addr} {bs : List Bool} (e : SqL K H p (bs.map V.bl)) (h : Q (.bl (bs.all id)) H) : rBi K xc .all [.ref p] H Q := ⟨p, bs, rfl, e, h⟩
theorem i_intS {a : Str} {n : Int} (e : PySem.intText? a = some n) (b : a.length ≤ 640) (h : Q (.int n) H) : rBi K xc .int [.str a] H Q := .inr ⟨a, n, rfl, e, b, h⟩
end
theorem all_true (n : Nat) : (List.replicate n true).all id = true := by simp
theorem rep_next {n : Nat} {b : Bool} : (List.replicate n b).map V.bl ++ [V.bl b] = (List.replicate (n + 1) b).map V.bl := by
  rw [List.replicate_succ', List.map_append]
  rfl
theorem len1' : (("\n" : Str).length == 0) = false ∧ ((" " : Str).length == 0) = false := by decide +kernel
def N_is_figures : List Str := ["text", "sign"]
def b_is_figures : Ss := (.cons (.ifs (.or2 (.nt (.cmp (.chain .LtE .LtE (.int 1) (.callB .len (.cons (.var 0) .nil)) (.glob "MOST_FIGURES")))) (.nt (.val (.callB .all (.cons (.comp (.inG false (.var 1) "FIGURES") (.nm 1) (.seq (.var 0)) .yes [1]) .nil)))))
  (.cons (.ret (.bl false))
  .nil)
  .nil)
  (.cons (.ret (.or2 (.cmp .Eq (.var 0) (.str "0")) (.cmp .NotEq (.sub (.var 0) (.int 0)) (.str "0"))))
  .nil))
def spFig : Sp := fun vs H Q _ => ∃ n l, vs = [.str (numS n)] ∧ n < 10000 ∧ SL l H ∧ ∀ H', SL l H' → Q (.bl true) H'
theorem w_is_figures {R : Rx} {k : Nat} {vs : List V} {H : Hp} {Q : VK} {X : XK} (N1 : HasInt R.toRt "MOST_FIGURES" 4) (N2 : HasStr R.toRt "FIGURES" figures) (h : spFig vs H Q X) : wSs R k b_is_figures (fun cls d _ H' => X cls d H') { nx := fun _ H' => Q .non H', rt := Q } (L2.start N_is_figures vs) H := by
  obtain ⟨n, l, rfl, hn, x, hq⟩ := h
  obtain ⟨l1, l2⟩ := numS_len hn
  have sz : (4 : Nat) < sizeLine := by rw [sizeLine_eq]; decide
  show wSs R k b_is_figures _ _ [some (.str (numS n)), none] H
  unfold b_is_figures
  walk_at "go"
  refine i_len (len_s (by omega)) ?_
  walk_at "go"
  refine x_dt (decide_eq_true (by omega)) ?_
  refine e_gint N1 ?_
  walk_at "go"
  rw [show (decide (((numS n).length : Int) ≤ 4)) = true from decide_eq_true (by omega)]
  walk_at "go"
  refine e_comp ?_
  walk_at "go"
  refine k_str (fun t acc => (fun _ => acc = (List.replicate t true).map V.bl) :: l) (x.add rfl) (fun t acc D H1 c hc ha y => ?_) fun acc D H1 ha y => ?_
  · obtain ⟨hacc, y'⟩ := y.swap.fact
    have hm : c ∈ TL.tl (numS n) := List.mem_of_getElem? (by simpa using hc)
    have ht : t < (numS n).cps.size := (Array.getElem?_eq_some_iff.mp hc).1
    have ht' : (numS n).cps.size = (numS n).length := rfl
    show wE R k _ W0 [some (.str (numS n)), some (.str ⟨#[c]⟩)] H1 _
    obtain ⟨tk, eg⟩ := N2
    refine ⟨.str ⟨#[c]⟩, rfl, .str figures, _, eg, ⟨tk, rfl⟩, .inr (.inr (.inr (.inr ⟨c, figures, rfl, rfl, ?_⟩)))⟩
    rw [decide_eq_true (num_fig (by rw [← tl_numS n]; exact hm))]
    refine CompN.of ha (by omega) ((y'.add (P := acc ++ [V.bl true] = _) ?_).swap)
    rw [hacc]
    exact rep_next
  · obtain ⟨hacc, y'⟩ := y.swap.fact
    subst hacc
    walk_at "go"
    refine i_all (sq_l (SL.get (.head _) y')) ?_
    rw [all_true]
    walk_at "go"
    cases hd : decide (numS n = "0") with
    | true =>
      walk_at "go"
      exact hq _ y'.tail
    | false =>
      walk_at "go"
      obtain ⟨c, r, e, hc⟩ := (num_head (n := n)).resolve_left (of_decide_eq_false hd)
      refine s_str0 (by omega) e ?_
      walk_at "go"
      refine c_ne rfl ?_
      rw [show (decide (V.str ⟨#[c]⟩ = V.str "0")) = false from decide_eq_false (fun z => hc (by
        have z := V.str.inj z
        have : (⟨#[c]⟩ : Str).cps = (⟨#[48]⟩ : Str).cps := by
          rw [z]
          decide +kernel
        have := congrArg Array.toList this
        simpa using this))]
      exact hq _ y'.tail

end Zw

set_option Elab.async false
set_option linter.all false
set_option maxRecDepth 100000
set_option maxHeartbeats 4000000
namespace Zw
open PySem PySem.Spec PyProof.Rows L2
local macro_rules | `(tactic| walk_at "mem") => `(tactic| (first | exact List.Mem.head _ | (apply List.Mem.tail; walk_at "mem")))
local macro_rules | `(tactic| walk_at "rp") => `(tactic| (first | exact Rp.hd | (apply Rp.tl; walk_at "rp")))
local macro_rules | `(tactic| walk_at "pk") => `(tactic| (first | exact Pk.hd | (apply Pk.tl; walk_at "pk")))
local macro_rules | `(tactic| walk_at "go1") => `(tactic| with_reducible (first
  | refine q_set ?_ | refine q_exp ?_ | refine q_doc ?_ | refine q_pass ?_ | refine q_ret ?_ | refine q_retN ?_ | refine q_brk ?_ | refine q_cont ?_ | refine q_if ?_ | refine q_par ?_ | refine q_setFld ?_ | refine q_setSub ?_ | refine q_for ?_
  | refine e_int ?_ | refine e_str ?_ | refine e_bl ?_ | refine e_non ?_ | refine e_bin ?_ | refine e_neg ?_ | refine e_nt ?_ | refine e_cmp ?_ | refine e_chain ?_ | refine e_and ?_ | refine e_or ?_ | refine e_ife ?_ | refine e_fld ?_ | refine e_sub ?_ | refine e_tup ?_ | refine e_lst ?_ | refine e_bi ?_ | refine e_meth ?_
  | refine es_nil ?_ | refine es_cons ?_ | refine t_yes ?_ | refine t_nt ?_ | refine t_and ?_ | refine t_or ?_ | refine t_cmp ?_ | refine t_val ?_ | refine i_seq ?_ | refine i_rng ?_
  | refine x_bl ?_ | refine x_in ?_ | refine tr_bl ?_ | refine tr_int ?_ | refine tr_non ?_
  | refine b_add ?_ | refine b_sub ?_ | refine c_lt ?_ | refine c_le ?_ | refine c_gt ?_ | refine c_ge ?_ | refine c_is ?_ | refine c_isnt ?_ | refine i_intB ?_ | refine c_eqI ?_ | refine c_neI ?_ | refine c_eqB ?_ | refine c_neB ?_ | refine c_eqS ?_ | refine q_nil ?_ | refine x_itt ?_ | refine x_iff ?_))
local macro_rules | `(tactic| walk_at "go2") => `(tactic| (first
  | ((with_reducible refine' e_var ?hg ?hh); (case hg => rfl))
  | ((with_reducible refine' s_0 ?hx ?hm ?hg ?hh); (case hx => assumption); (case hm => walk_at "mem"); (case hg => rfl))
  | ((with_reducible refine' s_1 ?hx ?hm ?hg ?hh); (case hx => assumption); (case hm => walk_at "mem"); (case hg => rfl))
  | ((with_reducible refine' s_2 ?hx ?hm ?hg ?hh); (case hx => assumption); (case hm => walk_at "mem"); (case hg => rfl))
  | ((with_reducible refine' p_0 ?hx ?hr ?hb ?hh); (case hx => assumption); (case hr => walk_at "rp"); (case hb => first | (simp; done) | decide); intros)
  | ((with_reducible refine' p_1 ?hx ?hr ?hb ?hh); (case hx => assumption); (case hr => walk_at "rp"); (case hb => first | (simp; done) | decide); intros)
  | ((with_reducible refine' n_lst ?hx ?hb ?hh); (case hx => assumption); (case hb => first | decide | (simp only [List.length_cons, List.length_nil]; decide)); intros)
  | ((with_reducible refine' n_tup ?hx ?hb ?hh); (case hx => assumption); (case hb => first | decide | (simp only [List.length_cons, List.length_nil]; decide)); intros)))
local macro_rules | `(tactic| walk_at "go") => `(tactic| repeat (first | walk_at "go1" | walk_at "go2"))
local macro_rules | `(tactic| walk_at "go2") => `(tactic| (first
  | ((with_reducible refine' e_ty ?hg ?hh); (case hg => rfl))
  | ((with_reducible refine' isi_dp ok_bl ?hx ?hh); (case hx => assumption))
  | ((with_reducible refine' isi_dp ok_int ?hx ?hh); (case hx => assumption))
  | ((with_reducible refine' isi_dp ok_str ?hx ?hh); (case hx => assumption))
  | ((with_reducible refine' isi_dp ok_tup ?hx ?hh); (case hx => assumption))
  | ((with_reducible refine' isi_dp ok_lst ?hx ?hh); (case hx => assumption))
  | ((with_reducible refine' x_dt ?hc ?hh); (case hc => rfl))
  | ((with_reducible refine' x_df ?hc ?hh); (case hc => rfl))))
def N_read_row : List Str := ["row", "line", "word", "numbers", "number"]
def b_read_row : Ss := (.cons (.unpS 2 3 (.meth (.var 1) "split" [.split] (.cons (.str " ") .nil)))
  (.cons (.ifs (.or2 (.cmp (.inG true (.var 2) "WORDS")) (.cmp (.cmp .NotEq (.callB .len (.cons (.var 3) .nil)) (.subG "WORDS" (.var 2)))))
  (.cons .dead
  .nil)
  .nil)
  (.cons (.ifs (.nt (.val (.callB .all (.cons (.comp (.call "is_figures" (.cons (.var 4) .nil)) (.nm 4) (.seq (.var 3)) .yes [4]) .nil))))
  (.cons .dead
  .nil)
  .nil)
  (.cons (.ret (.tupS (.var 2) (.comp (.callB .int (.cons (.var 4) .nil)) (.nm 4) (.seq (.var 3)) .yes [4])))
  .nil))))
def N_read : List Str := ["text", "row", "line"]
def b_read : Ss := (.cons (.ifs (.cmp (.cmp .Eq (.var 0) (.str "")))
  (.cons (.ret (.lst .nil))
  .nil)
  .nil)
  (.cons (.ret (.comp (.call "read_row" (.cons (.var 1) (.cons (.var 2) .nil))) (.tp [1, 2]) (.enum (.meth (.var 0) "split" [.split] (.cons (.str "\n") .nil))) .yes [1, 2]))
  .nil))
/-- the dict of the words, and how many numbers stand behind each -/
structure HasWords (R : Rt) (p : Addr) : Prop where
  mg : R.mg "WORDS" = some (.ref p)
  at_ : ∀ w ∈ words, KHas R.K R.w p w.1 true ∧ KDct R.K R.w p w.1 (.int (w.2 : Nat))
def spRow : Sp := fun vs H Q _ => ∃ (i : Int) (s : Stp) (l : List HP), vs = [.int i, .str (rowS s)] ∧ Good s ∧ SL l H ∧ ∀ q H', SL (pt q (.tup (stepV s)) :: l) H' → Q (.ref q) H'
theorem w_read_row {R : Rx} {k : Nat} {f pw : Addr} {vs : List V} {H : Hp} {Q : VK} {X : XK} (N1 : Has R.toRt k "is_figures" f spFig) (N2 : HasWords R.toRt pw) (h : spRow vs H Q X) : wSs R k b_read_row (fun cls d _ H' => X cls d H') { nx := fun _ H' => Q .non H', rt := Q } (L2.start N_read_row vs) H := by
  obtain ⟨i, s, l, rfl, g, x, hq⟩ := h
  have sz : (400 : Nat) < sizeLine := by rw [sizeLine_eq]; decide
  have few := g.few
  have hw := N2.at_ _ g.w
  show wSs R k b_read_row _ _ [some (.int i), some (.str (rowS s)), none, none, none] H
  unfold b_read_row
  refine q_unpS ?_
  walk_at "go"
  refine x_bm .split (by decide) ty_s ?_
  walk_at "go"
  refine m_split len1'.2 (by have := g.row_len; omega) x fun p H1 x1 => ?_
  rw [g.split] at x1
  refine ⟨p, .str s.1, (s.2.map numS).map V.str, rfl, sq_l (SL.get (.head _) x1), fun q hn => ?_⟩
  have x2 := x1.tail.new (.lst ((s.2.map numS).map V.str)) hn
  generalize upd H1 q (.lst ((s.2.map numS).map V.str)) = H2 at x2
  show wSs R k _ _ _ [some (.int i), some (.str (rowS s)), some (.str s.1), some (.ref q), none] H2
  walk_at "go"
  refine e_inD N2.mg hw.1 rfl ?_
  walk_at "go"
  refine i_len (len_l (sq_l (SL.get (.head _) x2))) ?_
  walk_at "go"
  refine e_ixD N2.mg hw.2 rfl ?_
  walk_at "go"
  refine x_df (by simp) ?_
  walk_at "go"
  refine e_comp ?_
  walk_at "go"
  refine k_lst (fun t acc => (fun _ => acc = (List.replicate t true).map V.bl) :: pt q (.lst ((s.2.map numS).map V.str)) :: l) (x2.add rfl) (fun t acc H y => sq_l (SL.get (.tail _ (.head _)) y)) (fun t acc D H1 v hv ha y => ?_) fun acc D H3 ha y => ?_
  · obtain ⟨hacc, y'⟩ := y.swap.fact
    have ht := (List.getElem?_eq_some_iff.mp hv).1
    simp only [List.length_map] at ht
    rw [List.getElem?_map, List.getElem?_map, List.getElem?_eq_getElem ht] at hv
    cases hv
    show wE R k _ W0 [some (.int i), some (.str (rowS s)), some (.str s.1), some (.ref q), some (.str (numS s.2[t]))] H1 _
    walk_at "go"
    refine e_call N1.mg N1.kp ?_
    walk_at "go"
    refine x_sp N1.ok ⟨_, _, rfl, g.n _ (List.getElem_mem ht), y', fun H4 y4 => ?_⟩
    refine CompN.of ha (by omega) ((y4.add (P := acc ++ [V.bl true] = _) ?_).swap)
    rw [hacc]
    exact rep_next
  · obtain ⟨hacc, y'⟩ := y.swap.fact
    subst hacc
    walk_at "go"
    refine i_all (sq_l (SL.get (.head _) y')) ?_
    rw [all_true]
    walk_at "go"
    refine e_tupS ?_
    walk_at "go"
    refine e_comp ?_
    walk_at "go"
    have y2 := y'.tail
    refine k_lst (fun t acc => (fun _ => acc = (s.2.map fun n => V.int (n : Nat)).take t) :: pt q (.lst ((s.2.map numS).map V.str)) :: l) (y2.add (by simp)) (fun t acc H y => sq_l (SL.get (.tail _ (.head _)) y)) (fun t acc D H1 v hv ha y => ?_) fun acc D H5 ha y => ?_
    · obtain ⟨hacc, y'⟩ := y.swap.fact
      have ht := (List.getElem?_eq_some_iff.mp hv).1
      simp only [List.length_map] at ht
      rw [List.getElem?_map, List.getElem?_map, List.getElem?_eq_getElem ht] at hv
      cases hv
      have hn := g.n _ (List.getElem_mem ht)
      show wE R k _ W0 [some (.int i), some (.str (rowS s)), some (.str s.1), some (.ref q), some (.str (numS s.2[t]))] H1 _
      walk_at "go"
      refine i_intS (num_int hn) (by have := (numS_len hn).2; omega) ?_
      refine CompN.of ha (by omega) ((y'.add (P := acc ++ [_] = _) (take_next hacc ?_)).swap)
      rw [List.getElem?_map, List.getElem?_eq_getElem ht]
      rfl
    · obtain ⟨hacc, y'⟩ := y.swap.fact
      rw [List.take_of_length_le (by simp)] at hacc
      subst hacc
      refine ⟨D, _, rfl, .inr (sq_l (SL.get (.head _) y')), by simp; omega, fun p hn => ?_⟩
      rw [List.append_nil]
      exact hq p _ (y'.tail.tail.new _ hn)
def spRead : Sp := fun vs H Q _ => ∃ S l, vs = [.str (textS S)] ∧ (∀ s ∈ S, Good s) ∧ S.length ≤ 9 ∧ SL l H ∧ ∀ p xs H', SL (pt p (.lst xs) :: StepsA xs S :: l) H' → Q (.ref p) H'
theorem w_read {R : Rx} {k : Nat} {f : Addr} {vs : List V} {H : Hp} {Q : VK} {X : XK} (N1 : Has R.toRt k "read_row" f spRow) (h : spRead vs H Q X) : wSs R k b_read (fun cls d _ H' => X cls d H') { nx := fun _ H' => Q .non H', rt := Q } (L2.start N_read vs) H := by
  obtain ⟨S, l, rfl, g, hS, x, hq⟩ := h
  have sz : (500 : Nat) < sizeLine := by rw [sizeLine_eq]; decide
  show wSs R k b_read _ _ [some (.str (textS S)), none, none] H
  unfold b_read
  by_cases he : S = []
  · subst he
    rw [text_nil] at *
    walk_at "go"
    rename_i p H1 x1
    exact hq p [] H1 (StepsA.nil x1).swap
  · walk_at "go"
    refine x_df (decide_eq_false (text_ne g he)) ?_
    walk_at "go"
    refine e_compP (i_enum ?_)
    walk_at "go"
    refine x_bm .split (by decide) ty_s ?_
    walk_at "go"
    refine m_split len1'.1 (by have := text_len g hS; omega) x fun p H1 x1 => ?_
    rw [text_split g he] at x1
    refine k_enum (by decide) (fun t acc => StepsA acc (S.take t) :: pt p (.lst ((S.map rowS).map V.str)) :: l) ((StepsA.nil x1)) (fun t acc H y => sq_l (SL.get (.tail _ (.head _)) y)) (fun t acc D H2 v hv ha y => ?_) fun acc D H2 ha y => ?_
    · have ht := (List.getElem?_eq_some_iff.mp hv).1
      simp only [List.length_map] at ht
      rw [List.getElem?_map, List.getElem?_map, List.getElem?_eq_getElem ht] at hv
      cases hv
      show wE R k _ W0 [some (.str (textS S)), some (.int (t : Nat)), some (.str (rowS S[t]))] H2 _
      refine e_call N1.mg N1.kp ?_
      walk_at "go"
      refine x_sp N1.ok ⟨_, S[t], _, rfl, g _ (List.getElem_mem ht), y, fun q H3 y3 => ?_⟩
      refine CompN.of ha (by omega) ?_
      have y4 := (SL.swap3 (A := pt q _) (B := pt D _) y3)
      have y5 := y4.swap
      have y6 := y5.perm (l' := pt q (.tup (stepV S[t])) :: StepsA acc (S.take t) :: pt D (.lst acc) :: pt p (.lst ((S.map rowS).map V.str)) :: l) (List.Perm.refl _)
      have y7 := y6.step
      rw [← take_next (l := S) (acc := S.take t) (t := t) rfl (List.getElem?_eq_getElem ht)]
      exact y7.swap
    · rw [List.take_of_length_le (by simp)] at y
      exact hq D acc H2 (SL.drop (.tl (.tl .hd)) y)

end Zw

set_option Elab.async false
set_option linter.all false
set_option maxRecDepth 100000
set_option maxHeartbeats 4000000
namespace Zw
open PySem PySem.Spec PyProof.Rows L2
local macro_rules | `(tactic| walk_at "mem") => `(tactic| (first | exact List.Mem.head _ | (apply List.Mem.tail; walk_at "mem")))
local macro_rules | `(tactic| walk_at "rp") => `(tactic| (first | exact Rp.hd | (apply Rp.tl; walk_at "rp")))
local macro_rules | `(tactic| walk_at "pk") => `(tactic| (first | exact Pk.hd | (apply Pk.tl; walk_at "pk")))
local macro_rules | `(tactic| walk_at "go1") => `(tactic| with_reducible (first
  | refine q_set ?_ | refine q_exp ?_ | refine q_doc ?_ | refine q_pass ?_ | refine q_ret ?_ | refine q_retN ?_ | refine q_brk ?_ | refine q_cont ?_ | refine q_if ?_ | refine q_par ?_ | refine q_setFld ?_ | refine q_setSub ?_ | refine q_for ?_
  | refine e_int ?_ | refine e_str ?_ | refine e_bl ?_ | refine e_non ?_ | refine e_bin ?_ | refine e_neg ?_ | refine e_nt ?_ | refine e_cmp ?_ | refine e_chain ?_ | refine e_and ?_ | refine e_or ?_ | refine e_ife ?_ | refine e_fld ?_ | refine e_sub ?_ | refine e_tup ?_ | refine e_lst ?_ | refine e_bi ?_ | refine e_meth ?_
  | refine es_nil ?_ | refine es_cons ?_ | refine t_yes ?_ | refine t_nt ?_ | refine t_and ?_ | refine t_or ?_ | refine t_cmp ?_ | refine t_val ?_ | refine i_seq ?_ | refine i_rng ?_
  | refine x_bl ?_ | refine x_in ?_ | refine tr_bl ?_ | refine tr_int ?_ | refine tr_non ?_
  | refine b_add ?_ | refine b_sub ?_ | refine c_lt ?_ | refine c_le ?_ | refine c_gt ?_ | refine c_ge ?_ | refine c_is ?_ | refine c_isnt ?_ | refine i_intB ?_ | refine c_eqI ?_ | refine c_neI ?_ | refine c_eqB ?_ | refine c_neB ?_ | refine c_eqS ?_ | refine q_nil ?_ | refine x_itt ?_ | refine x_iff ?_))
local macro_rules | `(tactic| walk_at "go2") => `(tactic| (first
  | ((with_reducible refine' e_var ?hg ?hh); (case hg => rfl))
  | ((with_reducible refine' s_0 ?hx ?hm ?hg ?hh); (case hx => assumption); (case hm => walk_at "mem"); (case hg => rfl))
  | ((with_reducible refine' s_1 ?hx ?hm ?hg ?hh); (case hx => assumption); (case hm => walk_at "mem"); (case hg => rfl))
  | ((with_reducible refine' s_2 ?hx ?hm ?hg ?hh); (case hx => assumption); (case hm => walk_at "mem"); (case hg => rfl))
  | ((with_reducible refine' p_0 ?hx ?hr ?hb ?hh); (case hx => assumption); (case hr => walk_at "rp"); (case hb => first | (simp; done) | decide); intros)
  | ((with_reducible refine' p_1 ?hx ?hr ?hb ?hh); (case hx => assumption); (case hr => walk_at "rp"); (case hb => first | (simp; done) | decide); intros)
  | ((with_reducible refine' n_lst ?hx ?hb ?hh); (case hx => assumption); (case hb => first | decide | (simp only [List.length_cons, List.length_nil]; decide)); intros)
  | ((with_reducible refine' n_tup ?hx ?hb ?hh); (case hx => assumption); (case hb => first | decide | (simp only [List.length_cons, List.length_nil]; decide)); intros)))
local macro_rules | `(tactic| walk_at "go") => `(tactic| repeat (first | walk_at "go1" | walk_at "go2"))
local macro_rules | `(tactic| walk_at "go2") => `(tactic| (first
  | ((with_reducible refine' e_ty ?hg ?hh); (case hg => rfl))
  | ((with_reducible refine' isi_dp ok_bl ?hx ?hh); (case hx => assumption))
  | ((with_reducible refine' isi_dp ok_int ?hx ?hh); (case hx => assumption))
  | ((with_reducible refine' isi_dp ok_str ?hx ?hh); (case hx => assumption))
  | ((with_reducible refine' isi_dp ok_tup ?hx ?hh); (case hx => assumption))
  | ((with_reducible refine' isi_dp ok_lst ?hx ?hh); (case hx => assumption))
  | ((with_reducible refine' x_dt ?hc ?hh); (case hc => rfl))
  | ((with_reducible refine' x_df ?hc ?hh); (case hc => rfl))))
/-! ## a step of any sort -/
def kvE : List (Str × Int) → Es
  | [] => .nil
  | p :: r => .cons (.str p.1) (.cons (.int p.2) (kvE r))
def kvK (l : List (Str × Int)) : List (Key × V) := l.map fun p => (.inr p.1, .int p.2)
section
variable {R : Rx} {k : Nat} {W : WX} {σ : L2.St} {H : Hp} {Q : VK} {l : List HP}
theorem pairs_kv : ∀ {kv : List (Str × Int)} {H : Hp} {Q : List (V × V) → Hp → Prop}, Q ((kvK kv).map fun p => (kV p.1, p.2)) H → tPairs (wPs R k (kvE kv) W) σ H Q
  | [], H, Q, h => h
  | p :: r, H, Q, h => pairs_kv (kv := r) (H := H) (Q := fun ps H3 => Q ((.str p.1, .int p.2) :: ps) H3) h
/-- a written dict of texts and numbers -/
theorem e_dctC (kv : List (Str × Int)) (b : kv.length ≤ 15) (x : SL l H) (h : ∀ p H', SL (pt p (.dK (mergeK [] (kvK kv))) :: l) H' → Q (.ref p) H') : wE R k (.dct (kvE kv)) W σ H Q := by
  intro p hn
  refine pairs_kv ⟨upd_same, kvK kv, rfl, by simpa [kvK] using b, h p _ ?_⟩
  exact (x.new (.dK []) hn).wr .hd rfl
end
section
variable {K : PySem.W.Frag} {H : Hp} {Q : VK} {l l' : List HP}
theorem ty_d {p : Addr} {kvs : List (Key × V)} (e : H p = some (.dK kvs)) : tyV K "dict" (.ref p) H := .inr (.inr (.inl ⟨rfl, .inl ⟨kvs, e⟩⟩))
theorem m_upd {p q : Addr} {kvs more : List (Key × V)} (hne : p ≠ q) (x : SL l H) (r : Rp (pt p (.dK kvs)) (pt p (.dK (mergeK kvs more))) l l') (mq : pt q (.dK more) ∈ l) (b : kvs.length + more.length ≤ sizeLine) (h : ∀ H', SL l' H' → Q .non H') : rMt K .update (.ref p) [.ref q] H Q :=
  ⟨p, q, kvs, more, rfl, rfl, hne, SL.get r.mem x, SL.get mq x, b, h _ (x.wr r rfl)⟩
theorem m_get2 {p : Addr} {kvs : List (Key × V)} {z : Str} {d : V} (x : SL l H) (m : pt p (.dK kvs) ∈ l) (h : Q ((valV kvs (.inr z)).getD d) H) : rMt K .dget2 (.ref p) [.str z, d] H Q :=
  ⟨p, .str z, d, _, rfl, rfl, DGet.k (k := .inr z) (SL.get m x), h⟩
theorem SL.ne {p q : Addr} {o u : HO} (f : fixO o = false) (x : SL (pt p o :: pt q u :: l) H) : p ≠ q := by
  rintro rfl
  obtain ⟨h, g, a, b, d, e1, e2⟩ := x
  have := d p o u e1 (SL.get (.head _) e2)
  rw [f] at this
  cases this
end
def anyWords : List Str := (([("make" : Str), "grow", "mirror", "read", "write", "write", "step", "step", "drop", "leave", "stay"] : List Str) ++ ([("room" : Str), "lacks", "lost", "volumes", "places", "copying", "lose", "bring", "arm"] : List Str)) ++ ([("again" : Str), "make", "step", "bring"] : List Str)
def anyKv1 : List (Str × Int) := [("make", 3), ("grow", 2), ("mirror", 2), ("read", 2), ("write", 3), ("bring", 2), ("step", 0), ("lacks", 0), ("lost", 0)]
def anyKv2 : List (Str × Int) := [("volumes", 0), ("copying", 0), ("again", 0)]
def anyTab : List (Key × V) := mergeK (mergeK [] (kvK anyKv1)) (mergeK [] (kvK anyKv2))
theorem any_count : ∀ w ∈ anyWords, ∃ p ∈ words, p.1 = w ∧ (valV anyTab (.inr w)).getD (.int 1) = .int (p.2 : Nat) := by decide +kernel
theorem any_len : anyWords.length = 24 := by decide +kernel
theorem any_tops : ∀ i : Nat, i < 5 → ∃ m : Int, ([.int 4, .int 4, .int 13, .int 1001, .int 9999] : List V)[i]? = some (.int m) ∧ 0 < m ∧ m ≤ 9999
  | 0, _ => ⟨4, rfl, by decide, by decide⟩
  | 1, _ => ⟨4, rfl, by decide, by decide⟩
  | 2, _ => ⟨13, rfl, by decide, by decide⟩
  | 3, _ => ⟨1001, rfl, by decide, by decide⟩
  | 4, _ => ⟨9999, rfl, by decide, by decide⟩
  | n + 5, h => absurd h (by omega)
def N_anystep : List Str := ["_law_box", "_law_words", "_law_counts", "_law_word", "_law_numbers", "_law_k"]
def b_anystep : Ss := (.cons (.set 1 (.lst (.cons (.str "make") (.cons (.str "grow") (.cons (.str "mirror") (.cons (.str "read") (.cons (.str "write") (.cons (.str "write") (.cons (.str "step") (.cons (.str "step") (.cons (.str "drop") (.cons (.str "leave") (.cons (.str "stay") .nil)))))))))))))
  (.cons (.set 1 (.bin .Add (.var 1) (.lst (.cons (.str "room") (.cons (.str "lacks") (.cons (.str "lost") (.cons (.str "volumes") (.cons (.str "places") (.cons (.str "copying") (.cons (.str "lose") (.cons (.str "bring") (.cons (.str "arm") .nil))))))))))))
  (.cons (.set 1 (.bin .Add (.var 1) (.lst (.cons (.str "again") (.cons (.str "make") (.cons (.str "step") (.cons (.str "bring") .nil)))))))
  (.cons (.set 2 (.dct (.cons (.str "make") (.cons (.int 3) (.cons (.str "grow") (.cons (.int 2) (.cons (.str "mirror") (.cons (.int 2) (.cons (.str "read") (.cons (.int 2) (.cons (.str "write") (.cons (.int 3) (.cons (.str "bring") (.cons (.int 2) (.cons (.str "step") (.cons (.int 0) (.cons (.str "lacks") (.cons (.int 0) (.cons (.str "lost") (.cons (.int 0) .nil))))))))))))))))))))
  (.cons (.exp (.meth (.var 2) "update" [.update] (.cons (.dct (.cons (.str "volumes") (.cons (.int 0) (.cons (.str "copying") (.cons (.int 0) (.cons (.str "again") (.cons (.int 0) .nil))))))) .nil)))
  (.cons (.set 3 (.sub (.var 1) (.call "_law_take" (.cons (.var 0) (.cons (.int 24) .nil)))))
  (.cons (.set 4 (.lst .nil))
  (.cons (.fors (.nm 5) (.rng1 (.meth (.var 2) "get" [.dget1, .dget2] (.cons (.var 3) (.cons (.int 1) .nil))))
  (.cons (.exp (.meth (.var 4) "append" [.append] (.cons (.call "_law_take" (.cons (.var 0) (.cons (.sub (.lst (.cons (.int 4) (.cons (.int 4) (.cons (.int 13) (.cons (.int 1001) (.cons (.int 9999) .nil)))))) (.call "_law_take" (.cons (.var 0) (.cons (.int 5) .nil)))) .nil))) .nil)))
  .nil))
  (.cons (.ret (.callB .tuple (.cons (.bin .Add (.lst (.cons (.var 3) .nil)) (.var 4)) .nil)))
  .nil)))))))))
def spAny : Sp := fun vs H Q _ => ∃ (a : Addr) (l : List HP), vs = [.ref a] ∧ SL (BoxA a :: l) H ∧ ∀ q s H', Good s → SL (pt q (.tup (stepV s)) :: BoxA a :: l) H' → Q (.ref q) H'
theorem w_anystep {R : Rx} {k : Nat} {f : Addr} {vs : List V} {H : Hp} {Q : VK} {X : XK} (N1 : Has R.toRt k "_law_take" f spTake) (h : spAny vs H Q X) : wSs R k b_anystep (fun cls d _ H' => X cls d H') { nx := fun _ H' => Q .non H', rt := Q } (L2.start N_anystep vs) H := by
  obtain ⟨a, l, rfl, x, hq⟩ := h
  have sz : (500 : Nat) < sizeLine := by rw [sizeLine_eq]; decide
  show wSs R k b_anystep _ _ [some (.ref a), none, none, none, none, none] H
  unfold b_anystep
  walk_at "go"
  rename_i p1 H1 x1 p2 H2 x2
  refine b_cat (SL.get (.tail _ (.head _)) x2) (SL.get (.head _) x2) (by decide) (n_o x2.swap.tail fun p3 H3 x3 => ?_)
  clear x2 x1 x
  walk_at "go"
  rename_i p4 H4 x4
  refine b_cat (SL.get (.tail _ (.head _)) x4) (SL.get (.head _) x4) (by decide) (n_o (SL.drop (.tl (.hd)) x4.tail) fun p5 H5 x5 => ?_)
  clear x4 x3
  have x5 : SL (pt p5 (.lst (anyWords.map V.str)) :: BoxA a :: l) H5 := SL.drop (.tl .hd) x5
  walk_at "go"
  refine e_dctC anyKv1 (by decide) x5 fun p6 H6 x6 => ?_
  clear x5
  walk_at "go"
  refine x_bm .update (by decide) (ty_d (SL.get (.head _) x6)) (es_cons ?_)
  refine e_dctC anyKv2 (by decide) x6 fun p7 H7 x7 => ?_
  clear x6
  walk_at "go"
  refine m_upd (SL.ne rfl x7.swap) x7 (.tl .hd) (.head _) (by have : (mergeK [] (kvK anyKv1)).length + (mergeK [] (kvK anyKv2)).length = 12 := by decide +kernel
                                                              omega) fun H8 x8 => ?_
  have x8 : SL (pt p6 (.dK anyTab) :: pt p5 (.lst (anyWords.map V.str)) :: BoxA a :: l) H8 := x8.tail
  clear x7
  walk_at "go"
  refine e_call N1.mg N1.kp ?_
  walk_at "go"
  refine x_sp N1.ok ⟨a, 24, pt p6 (.dK anyTab) :: pt p5 (.lst (anyWords.map V.str)) :: l, rfl, by decide, by decide, x8.swap3, fun H9 i i0 i1 x9 => ?_⟩
  clear x8
  obtain ⟨j, rfl⟩ : ∃ j : Nat, i = (j : Int) := ⟨i.toNat, by omega⟩
  have hj : j < anyWords.length := by rw [any_len]; omega
  refine s_lst (sq_l (SL.get (.tail _ (.tail _ (.head _))) x9)) (v := .str anyWords[j]) (by rw [List.getElem?_map, List.getElem?_eq_getElem hj]; rfl) ?_
  obtain ⟨⟨w, c⟩, hw, e1, e2⟩ := any_count anyWords[j] (List.getElem_mem hj)
  dsimp only at e1 e2
  rw [← e1] at e2 ⊢
  walk_at "go"
  rename_i p8 H10 x10
  refine x_bm .dget2 (by decide) (ty_d (SL.get (.tail _ (.tail _ (.head _))) x10)) ?_
  walk_at "go"
  refine m_get2 x10 (.tail _ (.tail _ (.head _))) ?_
  rw [e2]
  have hc : c ≤ 3 := (words_free _ hw).2.2.2.2
  have x11 : SL (pt p8 (.lst (([] : List Nat).map fun n => V.int (n : Nat))) :: BoxA a :: l) H10 := SL.drop (.tl (.tl .hd)) (SL.drop (.tl (.tl .hd)) x10)
  refine l_rng (n := c) (fun t σ H => ∃ (ns : List Nat) (z : Option V), ns.length = t ∧ (∀ n ∈ ns, n < 10000) ∧ SL (pt p8 (.lst (ns.map fun n => V.int (n : Nat))) :: BoxA a :: l) H ∧ σ = [some (.ref a), some (.ref p5), some (.ref p6), some (.str w), some (.ref p8), z]) (by omega) ⟨[], _, rfl, (by simp), x11, rfl⟩ (fun t σ H ht I => ?_) fun σ H I => ?_
  · obtain ⟨ns, z, hl, hn, y, rfl⟩ := I
    clear x9 x10 x11
    walk_at "go"
    refine x_bm .append (by decide) (ty_l (sq_l (SL.get (.head _) y))) (es_cons ?_)
    refine e_call N1.mg N1.kp ?_
    walk_at "go"
    rename_i p9 Ha xa
    refine e_call N1.mg N1.kp ?_
    walk_at "go"
    refine x_sp N1.ok ⟨a, 5, pt p9 (.lst [.int 4, .int 4, .int 13, .int 1001, .int 9999]) :: pt p8 (.lst (ns.map fun n => V.int (n : Nat))) :: l, rfl, by decide, by decide, xa.swap3, fun Hb i i0 i1 xb => ?_⟩
    obtain ⟨j, rfl⟩ : ∃ j : Nat, i = (j : Int) := ⟨i.toNat, by omega⟩
    obtain ⟨m, hm, m0, m1⟩ := any_tops j (by omega)
    refine s_lst (sq_l (SL.get (.tail _ (.head _)) xb)) hm ?_
    walk_at "go"
    refine x_sp N1.ok ⟨a, m, pt p9 (.lst [.int 4, .int 4, .int 13, .int 1001, .int 9999]) :: pt p8 (.lst (ns.map fun n => V.int (n : Nat))) :: l, rfl, m0, ?_, xb, fun Hc i i0 i1 xc => ?_⟩
    · have hz : m.natAbs ≠ 0 := by omega
      exact Nat.lt_trans ((Nat.log2_lt hz).mpr (show m.natAbs < 2 ^ 14 by omega)) (by decide)
    obtain ⟨v, rfl⟩ : ∃ v : Nat, i = (v : Int) := ⟨i.toNat, by omega⟩
    walk_at "go"
    refine m_app xc (.tl (.tl .hd)) (by simp; omega) fun Hd xd => ?_
    walk_at "go"
    refine ⟨ns ++ [v], _, by simp [hl], fun n hn' => ?_, ?_, rfl⟩
    · rcases List.mem_append.mp hn' with h | h
      · exact hn n h
      · obtain rfl := List.mem_singleton.mp h
        omega
    · rw [List.map_append]
      exact (SL.drop (.tl .hd) xd).swap
  · obtain ⟨ns, z, hl, hn, y, rfl⟩ := I
    clear x9 x10 x11
    walk_at "go"
    rename_i p9 Ha xa
    refine b_cat (SL.get (.head _) xa) (SL.get (.tail _ (.head _)) xa) (by simp; omega) (n_o xa fun pb Hb xb => ?_)
    walk_at "go"
    refine ⟨pb, _, rfl, .inl ⟨sq_l (SL.get (.head _) xb), fun q hn' => ?_⟩⟩
    refine hq q (w, ns) _ ⟨by rw [hl]; exact hw, hn⟩ ?_
    exact (SL.drop (.hd) (SL.drop (.hd) (SL.drop (.hd) xb))).new _ hn'

end Zw

set_option Elab.async false
set_option linter.all false
set_option maxRecDepth 100000
set_option maxHeartbeats 4000000
namespace Zw
open PySem PySem.Spec PyProof.Rows L2
local macro_rules | `(tactic| walk_at "mem") => `(tactic| (first | exact List.Mem.head _ | (apply List.Mem.tail; walk_at "mem")))
local macro_rules | `(tactic| walk_at "rp") => `(tactic| (first | exact Rp.hd | (apply Rp.tl; walk_at "rp")))
local macro_rules | `(tactic| walk_at "pk") => `(tactic| (first | exact Pk.hd | (apply Pk.tl; walk_at "pk")))
local macro_rules | `(tactic| walk_at "go1") => `(tactic| with_reducible (first
  | refine q_set ?_ | refine q_exp ?_ | refine q_doc ?_ | refine q_pass ?_ | refine q_ret ?_ | refine q_retN ?_ | refine q_brk ?_ | refine q_cont ?_ | refine q_if ?_ | refine q_par ?_ | refine q_setFld ?_ | refine q_setSub ?_ | refine q_for ?_
  | refine e_int ?_ | refine e_str ?_ | refine e_bl ?_ | refine e_non ?_ | refine e_bin ?_ | refine e_neg ?_ | refine e_nt ?_ | refine e_cmp ?_ | refine e_chain ?_ | refine e_and ?_ | refine e_or ?_ | refine e_ife ?_ | refine e_fld ?_ | refine e_sub ?_ | refine e_tup ?_ | refine e_lst ?_ | refine e_bi ?_ | refine e_meth ?_
  | refine es_nil ?_ | refine es_cons ?_ | refine t_yes ?_ | refine t_nt ?_ | refine t_and ?_ | refine t_or ?_ | refine t_cmp ?_ | refine t_val ?_ | refine i_seq ?_ | refine i_rng ?_
  | refine x_bl ?_ | refine x_in ?_ | refine tr_bl ?_ | refine tr_int ?_ | refine tr_non ?_
  | refine b_add ?_ | refine b_sub ?_ | refine c_lt ?_ | refine c_le ?_ | refine c_gt ?_ | refine c_ge ?_ | refine c_is ?_ | refine c_isnt ?_ | refine i_intB ?_ | refine c_eqI ?_ | refine c_neI ?_ | refine c_eqB ?_ | refine c_neB ?_ | refine c_eqS ?_ | refine q_nil ?_ | refine x_itt ?_ | refine x_iff ?_))
local macro_rules | `(tactic| walk_at "go2") => `(tactic| (first
  | ((with_reducible refine' e_var ?hg ?hh); (case hg => rfl))
  | ((with_reducible refine' s_0 ?hx ?hm ?hg ?hh); (case hx => assumption); (case hm => walk_at "mem"); (case hg => rfl))
  | ((with_reducible refine' s_1 ?hx ?hm ?hg ?hh); (case hx => assumption); (case hm => walk_at "mem"); (case hg => rfl))
  | ((with_reducible refine' s_2 ?hx ?hm ?hg ?hh); (case hx => assumption); (case hm => walk_at "mem"); (case hg => rfl))
  | ((with_reducible refine' p_0 ?hx ?hr ?hb ?hh); (case hx => assumption); (case hr => walk_at "rp"); (case hb => first | (simp; done) | decide); intros)
  | ((with_reducible refine' p_1 ?hx ?hr ?hb ?hh); (case hx => assumption); (case hr => walk_at "rp"); (case hb => first | (simp; done) | decide); intros)
  | ((with_reducible refine' n_lst ?hx ?hb ?hh); (case hx => assumption); (case hb => first | decide | (simp only [List.length_cons, List.length_nil]; decide)); intros)
  | ((with_reducible refine' n_tup ?hx ?hb ?hh); (case hx => assumption); (case hb => first | decide | (simp only [List.length_cons, List.length_nil]; decide)); intros)))
local macro_rules | `(tactic| walk_at "go") => `(tactic| repeat (first | walk_at "go1" | walk_at "go2"))
local macro_rules | `(tactic| walk_at "go2") => `(tactic| (first
  | ((with_reducible refine' e_ty ?hg ?hh); (case hg => rfl))
  | ((with_reducible refine' isi_dp ok_bl ?hx ?hh); (case hx => assumption))
  | ((with_reducible refine' isi_dp ok_int ?hx ?hh); (case hx => assumption))
  | ((with_reducible refine' isi_dp ok_str ?hx ?hh); (case hx => assumption))
  | ((with_reducible refine' isi_dp ok_tup ?hx ?hh); (case hx => assumption))
  | ((with_reducible refine' isi_dp ok_lst ?hx ?hh); (case hx => assumption))
  | ((with_reducible refine' x_dt ?hc ?hh); (case hc => rfl))
  | ((with_reducible refine' x_df ?hc ?hh); (case hc => rfl))))
/-! ## the law of written steps -/
def partD (s : Stp) : List PyData := .str s.1 :: s.2.map fun n => .int (n : Nat)
def stepD (s : Stp) : PyData := .tuple (partD s)
def stepsD (S : List Stp) : PyData := .list (S.map stepD)
section
variable {K : PySem.W.Frag} {H : Hp}
theorem dp_part : ∀ ns : List Nat, DpAll K H (ns.map fun n => V.int (n : Nat)) (ns.map fun n => PyData.int (n : Nat))
  | [] => .nil
  | _ :: r => .cons (.int _) (dp_part r)
theorem dp_all : ∀ {S : List Stp} {xs : List V}, StepsA xs S H → DpAll K H xs (S.map stepD)
  | [], xs, h => by
    have : xs = [] := List.length_eq_zero_iff.mp h.1
    subst this
    exact .nil
  | s :: S, [], h => by cases h.1
  | s :: S, x :: xs, h => by
    obtain ⟨a, h1, h2⟩ := h.2 0 s rfl
    simp at h1
    subst h1
    refine .cons (.tup (st_t h2) (.cons (.str _) (dp_part _))) (dp_all ⟨by simpa using h.1, fun i s' e => h.2 (i + 1) s' (by simpa using e)⟩)
theorem dp_steps {p : Addr} {xs : List V} {S : List Stp} (e : SqL K H p xs) (h : StepsA xs S H) : Dp K H (.ref p) (stepsD S) := .lst e (dp_all h)
end
theorem lay_part : ∀ ns : List Nat, PyData.canLayAll0 (ns.map fun n => PyData.int (n : Nat)) = true
  | [] => rfl
  | _ :: r => by simp [PyData.canLayAll0, PyData.canLay0, lay_part r]
theorem words_ok : ∀ p ∈ words, PyData.strOk p.1 = true := by decide +kernel
theorem lay_steps : ∀ {S : List Stp}, (∀ s ∈ S, Good s) → PyData.canLayAll0 (S.map stepD) = true
  | [], _ => rfl
  | s :: r, g => by
    have := words_ok _ (g s List.mem_cons_self).w
    simp [PyData.canLayAll0, PyData.canLay0, stepD, partD, lay_part, lay_steps (S := r) (fun q hq => g q (List.mem_cons_of_mem _ hq)), this]
theorem dep_part : ∀ ns : List Nat, PyData.depthAll (ns.map fun n => PyData.int (n : Nat)) = 0
  | [] => rfl
  | _ :: r => by simp [PyData.depthAll, PyData.depth, dep_part r]
theorem dep_steps : ∀ S : List Stp, PyData.depthAll (S.map stepD) ≤ 1
  | [] => by simp [PyData.depthAll]
  | s :: r => by
    have := dep_steps r
    simp [PyData.depthAll, PyData.depth, stepD, partD, dep_part]
    omega
theorem dep_all (S : List Stp) : (stepsD S).depth ≤ 2 := by
  have := dep_steps S
  simp only [stepsD, PyData.depth]
  omega
theorem can_all {S : List Stp} (g : ∀ s ∈ S, Good s) : (stepsD S).canLay0 = true := by
  unfold stepsD
  rw [PyData.canLay0]
  exact lay_steps g
theorem shaped_all {S : List Stp} (g : ∀ s ∈ S, Good s) : SeqAt.shaped (stepsD S) = true := by
  unfold SeqAt.shaped
  rw [can_all g, decide_eq_true (by have := dep_all S; omega)]
  rfl
theorem sz_part : ∀ ns : List Nat, szAll (ns.map fun n => PyData.int (n : Nat)) = true
  | [] => rfl
  | _ :: r => by simp [szAll, szB, sz_part r]
theorem sz_steps : ∀ {S : List Stp}, (∀ s ∈ S, Good s) → szAll (S.map stepD) = true
  | [], _ => rfl
  | s :: r, g => by
    have h1 := (g s List.mem_cons_self).few
    have h2 : s.2.length + 1 ≤ sizeLine := by rw [sizeLine_eq]; omega
    simp only [List.map_cons, szAll, stepD, partD, szB, List.length_cons, List.length_map, sz_part, Bool.and_true, Bool.true_and, sz_steps (S := r) (fun q hq => g q (List.mem_cons_of_mem _ hq))]
    exact decide_eq_true h2
theorem sz_all {S : List Stp} (g : ∀ s ∈ S, Good s) (h : S.length ≤ 9) : szB (stepsD S) = true := by
  have h2 : S.length ≤ sizeLine := by rw [sizeLine_eq]; omega
  simp only [stepsD, szB, List.length_map, sz_steps g, Bool.and_true]
  exact decide_eq_true h2
/-- a row that grows is short -/
theorem grow_len {w : Str} {ns : List Nat} (hw : w.length ≤ 7) (hn : ∀ n ∈ ns, n < 10000) (h : ns.length ≤ 3) : (growS w ns).length ≤ 32 := by
  rw [TL.len_tl, tl_grow]
  have h1 := joinL_len (S := [32]) (ps := TL.tl w :: (ns.map numS).map TL.tl)
  have h2 : ((TL.tl w :: (ns.map numS).map TL.tl).map (·.length)).sum ≤ 4 * 7 := by
    have e : (TL.tl w :: (ns.map numS).map TL.tl) = (w :: ns.map numS).map TL.tl := rfl
    rw [e, map_len]
    refine Nat.le_trans (sum_le (b := 7) fun x hx => ?_) ?_
    · obtain ⟨p, hp, rfl⟩ := List.mem_map.mp hx
      rcases List.mem_cons.mp hp with rfl | hp
      · exact hw
      · obtain ⟨n, hm, rfl⟩ := List.mem_map.mp hp
        have := (numS_len (hn n hm)).2
        omega
    · simp only [List.length_map, List.length_cons]
      exact Nat.mul_le_mul_right 7 (by omega)
  simp only [List.length_map, List.length_cons, List.length_nil] at h1 ⊢
  simp only [List.length_map, List.map_cons, List.sum_cons] at h2 h1
  omega
theorem grow_next {w : Str} {ns : List Nat} {j n : Nat} (h : ns[j]? = some n) : growS w (ns.take j) ++ " " ++ numS n = growS w (ns.take (j + 1)) := by
  rw [← take_next (l := ns) (acc := ns.take j) rfl h]
  unfold growS
  rw [List.foldl_append]
  rfl
section
variable {R : Rx} {k : Nat} {W : WX} {σ : L2.St} {H : Hp} {Q : VK} {D : Ends} {r : Ss}
theorem e_cut {a : E} {lo hi : O} (h : wE R k a W σ H fun x H1 => wO R k lo W σ H1 fun l H2 => wO R k hi W σ H2 fun u H3 => rCut R.K x l u H3 Q) : wE R k (.cut a lo hi) W σ H Q := h
theorem o_part {e : E} {Q : Option Int → Hp → Prop} (h : wE R k e W σ H fun x H1 => ∃ i, x = .int i ∧ Q (some i) H1) : wO R k (.part e) W σ H Q := h
theorem o_no {Q : Option Int → Hp → Prop} (h : Q none H) : wO R k .no W σ H Q := h
/-- over a tuple -/
theorem l_tup {i : Nat} {a : Ss} {p : Addr} {xs : List V} {P P' : Prop} (inv : Nat → L2.St → Hp → Prop) (e : SqT R.K H p xs) (i0 : inv 0 σ H) (sq : ∀ j σ H, inv j σ H → SqT R.K H p xs)
    (st : ∀ j x σ H, xs[j]? = some x → inv j σ H → wSs R k a W { D with nx := inv (j + 1), ct := inv (j + 1), bk := fun σ' H' => wSs R k r W D σ' H' } (σ.set i (some x)) H) (en : ∀ σ H, inv xs.length σ H → wSs R k r W D σ H) :
    P' ∨ (∃ q, V.ref p = .ref q ∧ (∃ xs, SqT R.K H q xs) ∧ ∃ V : Nat → Nat → L2.St → Hp → Prop, (∃ m, V 0 m σ H) ∧ ∀ j m σ H, V j m σ H →
  ((Itt R.K q).stop j H ∧ wSs R k r W D σ H) ∨ ((Itt R.K q).go j H ∧ ∃ N : L2.St → Hp → Prop, (∀ σ' H', N σ' H' → ∃ m', m' < m ∧ V (j + 1) m' σ' H') ∧ ∀ x H', (Itt R.K q).yld j H x H' → wSs R k a W { D with nx := N, ct := N, bk := fun σ' H' => wSs R k r W D σ' H' } (σ.set i (some x)) H')) ∨ P := by
  refine .inr (.inl ⟨p, rfl, ⟨xs, e⟩, fun j m σ H => j + m = xs.length ∧ inv j σ H, ⟨xs.length, by omega, i0⟩, fun j m σ H ⟨hm, hi⟩ => ?_⟩)
  have s1 := sq j σ H hi
  by_cases hj : j < xs.length
  · refine .inr ⟨⟨xs, xs[j], s1, List.getElem?_eq_getElem hj⟩, inv (j + 1), fun σ' H' h' => ⟨m - 1, by omega, by omega, h'⟩, fun x H' hy => ?_⟩
    obtain ⟨rfl, hx⟩ := hy
    exact st j x σ _ (hx xs s1) hi
  · have : j = xs.length := by omega
    subst this
    exact .inl ⟨⟨xs, s1, Nat.le_refl _⟩, en σ H hi⟩
end
section
variable {K : PySem.W.Frag} {xc : XC} {H : Hp} {Q : VK} {l : List HP}
theorem b_addS {i j : Str} (b : i.length + j.length ≤ sizeLine) (h : Q (.str (i ++ j)) H) : rBin K .Add (.str i) (.str j) H Q := .inr (.inl ⟨i, j, rfl, rfl, b, h⟩)
/-- t[1:] of a tuple that is not empty -/
theorem cut_1 {p : Addr} {x0 : V} {xs : List V} (e : SqT K H p (x0 :: xs)) (h : ∀ q, H q = none → Q (.ref q) (upd H q (.tup xs))) : rCut K (.ref p) (some 1) none H Q := by
  have s1 : HT.sIx (x0 :: xs).length 0 (some 1) = 1 := by
    rw [show (some 1 : Option Int) = some ((1 : Nat) : Int) from rfl, HT.sIx_nat]
    simp
  refine .inr (.inl ⟨p, x0 :: xs, rfl, e, fun z => ?_, fun _ q hn => ?_⟩)
  · rw [s1] at z
    cases z.1
  · have : cutV (x0 :: xs) (some 1) none = xs := by
      unfold cutV
      rw [s1, HT.sIx_none]
      simp
    rw [this]
    exact h q hn
theorem s_tup0 {p : Addr} {x0 : V} {xs : List V} (e : SqT K H p (x0 :: xs)) (h : Q x0 H) : rSubs K (.ref p) (.int 0) H Q := s_tup (i := 0) e rfl h
theorem c_neSteps {p q : Addr} {S : List Stp} (g : ∀ s ∈ S, Good s) (hp : Dp K H (.ref p) (stepsD S)) (hq : Dp K H (.ref q) (stepsD S)) (h : Q (.bl false) H) : rCmp K .NotEq (.ref p) (.ref q) H Q := .inr ⟨stepsD S, stepsD S, hp, hq, shaped_all g, shaped_all g, by
  rw [PySem.SeqAt.eqv_refl _ (can_all g)]
  exact h⟩
theorem c_neS {i j : Str} (h : Q (.bl (!decide (i = j))) H) : rCmp K .NotEq (.str i) (.str j) H Q := c_ne rfl (by
  rw [show decide (V.str i = V.str j) = decide (i = j) by rw [decide_eq_decide]; exact ⟨fun h => by cases h; rfl, fun h => by rw [h]⟩]
  exact h)
end
def N_law14 : List Str := ["_law_script", "_law_box", "_law_turn", "_law_steps", "_law_k", "_law_rows", "_law_step", "_law_row", "_law_part", "_law_text", "_law_handed", "_law_found"]

end Zw

set_option Elab.async false
set_option linter.all false
set_option maxRecDepth 100000
set_option maxHeartbeats 4000000
namespace Zw
open PySem PySem.Spec PyProof.Rows L2
local macro_rules | `(tactic| walk_at "mem") => `(tactic| (first | exact List.Mem.head _ | (apply List.Mem.tail; walk_at "mem")))
local macro_rules | `(tactic| walk_at "rp") => `(tactic| (first | exact Rp.hd | (apply Rp.tl; walk_at "rp")))
local macro_rules | `(tactic| walk_at "pk") => `(tactic| (first | exact Pk.hd | (apply Pk.tl; walk_at "pk")))
local macro_rules | `(tactic| walk_at "go1") => `(tactic| with_reducible (first
  | refine q_set ?_ | refine q_exp ?_ | refine q_doc ?_ | refine q_pass ?_ | refine q_ret ?_ | refine q_retN ?_ | refine q_brk ?_ | refine q_cont ?_ | refine q_if ?_ | refine q_par ?_ | refine q_setFld ?_ | refine q_setSub ?_ | refine q_for ?_
  | refine e_int ?_ | refine e_str ?_ | refine e_bl ?_ | refine e_non ?_ | refine e_bin ?_ | refine e_neg ?_ | refine e_nt ?_ | refine e_cmp ?_ | refine e_chain ?_ | refine e_and ?_ | refine e_or ?_ | refine e_ife ?_ | refine e_fld ?_ | refine e_sub ?_ | refine e_tup ?_ | refine e_lst ?_ | refine e_bi ?_ | refine e_meth ?_
  | refine es_nil ?_ | refine es_cons ?_ | refine t_yes ?_ | refine t_nt ?_ | refine t_and ?_ | refine t_or ?_ | refine t_cmp ?_ | refine t_val ?_ | refine i_seq ?_ | refine i_rng ?_
  | refine x_bl ?_ | refine x_in ?_ | refine tr_bl ?_ | refine tr_int ?_ | refine tr_non ?_
  | refine b_add ?_ | refine b_sub ?_ | refine c_lt ?_ | refine c_le ?_ | refine c_gt ?_ | refine c_ge ?_ | refine c_is ?_ | refine c_isnt ?_ | refine i_intB ?_ | refine c_eqI ?_ | refine c_neI ?_ | refine c_eqB ?_ | refine c_neB ?_ | refine c_eqS ?_ | refine q_nil ?_ | refine x_itt ?_ | refine x_iff ?_))
local macro_rules | `(tactic| walk_at "go2") => `(tactic| (first
  | ((with_reducible refine' e_var ?hg ?hh); (case hg => rfl))
  | ((with_reducible refine' s_0 ?hx ?hm ?hg ?hh); (case hx => assumption); (case hm => walk_at "mem"); (case hg => rfl))
  | ((with_reducible refine' s_1 ?hx ?hm ?hg ?hh); (case hx => assumption); (case hm => walk_at "mem"); (case hg => rfl))
  | ((with_reducible refine' s_2 ?hx ?hm ?hg ?hh); (case hx => assumption); (case hm => walk_at "mem"); (case hg => rfl))
  | ((with_reducible refine' p_0 ?hx ?hr ?hb ?hh); (case hx => assumption); (case hr => walk_at "rp"); (case hb => first | (simp; done) | decide); intros)
  | ((with_reducible refine' p_1 ?hx ?hr ?hb ?hh); (case hx => assumption); (case hr => walk_at "rp"); (case hb => first | (simp; done) | decide); intros)
  | ((with_reducible refine' n_lst ?hx ?hb ?hh); (case hx => assumption); (case hb => first | decide | (simp only [List.length_cons, List.length_nil]; decide)); intros)
  | ((with_reducible refine' n_tup ?hx ?hb ?hh); (case hx => assumption); (case hb => first | decide | (simp only [List.length_cons, List.length_nil]; decide)); intros)))
local macro_rules | `(tactic| walk_at "go") => `(tactic| repeat (first | walk_at "go1" | walk_at "go2"))
local macro_rules | `(tactic| walk_at "go2") => `(tactic| (first
  | ((with_reducible refine' e_ty ?hg ?hh); (case hg => rfl))
  | ((with_reducible refine' isi_dp ok_bl ?hx ?hh); (case hx => assumption))
  | ((with_reducible refine' isi_dp ok_int ?hx ?hh); (case hx => assumption))
  | ((with_reducible refine' isi_dp ok_str ?hx ?hh); (case hx => assumption))
  | ((with_reducible refine' isi_dp ok_tup ?hx ?hh); (case hx => assumption))
  | ((with_reducible refine' isi_dp ok_lst ?hx ?hh); (case hx => assumption))
  | ((with_reducible refine' x_dt ?hc ?hh); (case hc => rfl))
  | ((with_reducible refine' x_df ?hc ?hh); (case hc => rfl))))
def b_law14 : Ss := (.cons (.set 1 (.call "_law_begun" (.cons (.var 0) .nil)))
  (.cons (.fors (.nm 2) (.rng1 (.int 8))
  (.cons (.set 3 (.comp (.call "_law_anystep" (.cons (.var 1) .nil)) (.nm 4) (.rng1 (.call "_law_take" (.cons (.var 1) (.cons (.int 10) .nil)))) .yes [4]))
  (.cons (.set 5 (.lst .nil))
  (.cons (.fors (.nm 6) (.seq (.var 3))
  (.cons (.set 7 (.sub (.var 6) (.int 0)))
  (.cons (.fors (.nm 8) (.seq (.cut (.var 6) (.part (.int 1)) .no))
  (.cons (.set 7 (.bin .Add (.bin .Add (.var 7) (.str " ")) (.callB .str (.cons (.var 8) .nil))))
  .nil))
  (.cons (.exp (.meth (.var 5) "append" [.append] (.cons (.var 7) .nil)))
  .nil))))
  (.cons (.set 9 (.meth (.str "\n") "join" [.join] (.cons (.var 5) .nil)))
  (.cons (.set 10 (.callB .list (.cons (.var 3) .nil)))
  (.cons (.ifs (.or2 (.nt (.val (.call "_law_alike" (.cons (.call "written" (.cons (.var 10) .nil)) (.cons (.var 9) .nil))))) (.cmp (.cmp .NotEq (.var 10) (.var 3))))
  (.cons (.ret (.bl false))
  .nil)
  .nil)
  (.cons (.set 11 (.call "read" (.cons (.var 9) .nil)))
  (.cons (.ifs (.or2 (.nt (.val (.call "_law_alike" (.cons (.var 11) (.cons (.var 3) .nil))))) (.cmp (.cmp .NotEq (.call "written" (.cons (.var 11) .nil)) (.var 9))))
  (.cons (.ret (.bl false))
  .nil)
  .nil)
  (.cons (.exp (.meth (.var 11) "append" [.append] (.cons (.tup .nil) .nil)))
  (.cons (.ifs (.nt (.val (.call "_law_alike" (.cons (.call "read" (.cons (.var 9) .nil)) (.cons (.var 3) .nil)))))
  (.cons (.ret (.bl false))
  .nil)
  .nil)
  .nil)))))))))))
  (.cons (.ret (.bl true))
  .nil)))
theorem SL.one {p : Addr} {o : HO} {H : Hp} (e : H p = some o) : SL [pt p o] H := ⟨H, fun _ => none, Sub.refl _, (fun _ _ e => by cases e), (fun _ _ _ _ e => by cases e), e, trivial⟩
theorem SL.hd1 {A : HP} {l : List HP} {H : Hp} (x : SL (A :: l) H) : SL [A] H := by
  obtain ⟨h, g, a, b, d, y, z⟩ := x
  exact ⟨h, g, a, b, d, y, trivial⟩
/-- a list that is only read stands by itself -/
theorem SL.ofSq {K : PySem.W.Frag} {H : Hp} {a : Addr} {xs : List V} (h : SqL K H a xs) : ∃ l, SL l H ∧ ∀ H', SL l H' → SqL K H' a xs := by
  rcases h with (h | ⟨o, h⟩) | h
  · exact ⟨[pt a _], SL.one h, fun H' y => .inl (.inl (SL.get (.head _) y))⟩
  · exact ⟨[pt a _], SL.one h, fun H' y => .inl (.inr ⟨o, SL.get (.head _) y⟩)⟩
  · exact ⟨[], trivial, fun H' _ => .inr h⟩
def spLaw14 (K : PySem.W.Frag) : Sp := fun vs H Q _ => ∃ (a : Addr) (ns : List Int), vs = [.ref a] ∧ ns.length ≤ sizeLine ∧ SqL K H a (ns.map V.int) ∧ ∀ H', Q (.bl true) H'
theorem w_law14 {R : Rx} {k : Nat} {f1 f2 f3 f4 f5 f6 : Addr} {vs : List V} {H : Hp} {Q : VK} {X : XK} (N1 : Has R.toRt k "_law_begun" f1 (spBegun R.K)) (N2 : Has R.toRt k "_law_take" f2 spTake) (N3 : Has R.toRt k "_law_anystep" f3 spAny) (N4 : Has R.toRt k "_law_alike" f4 (spAlike R.K 2))
    (N5 : Has R.toRt k "written" f5 spWritten) (N6 : Has R.toRt k "read" f6 spRead) (h : spLaw14 R.K vs H Q X) : wSs R k b_law14 (fun cls d _ H' => X cls d H') { nx := fun _ H' => Q .non H', rt := Q } (L2.start N_law14 vs) H := by
  obtain ⟨a, is, rfl, hl, x, hq⟩ := h
  have sz : (500 : Nat) < sizeLine := by rw [sizeLine_eq]; decide
  obtain ⟨l0, x0, sq0⟩ := SL.ofSq x
  show wSs R k b_law14 _ _ [some (.ref a), none, none, none, none, none, none, none, none, none, none, none] H
  unfold b_law14
  walk_at "go"
  refine e_call N1.mg N1.kp ?_
  walk_at "go"
  refine x_sp N1.ok ⟨a, is, l0, rfl, hl, x0, sq0, fun b H1 x1 => ?_⟩
  show wSs R k _ _ _ [some (.ref a), some (.ref b), none, none, none, none, none, none, none, none, none, none] H1
  refine q_for (i_rng (e_int ?_))
  refine l_rng (n := 8) (fun _ σ H => SL [BoxA b] H ∧ ∃ c2 c3 c4 c5 c6 c7 c8 c9 c10 c11, σ = [some (.ref a), some (.ref b), c2, c3, c4, c5, c6, c7, c8, c9, c10, c11]) (by decide) ⟨SL.hd1 x1, _, _, _, _, _, _, _, _, _, _, rfl⟩ (fun t σ H ht I => ?_) fun σ H I => ?_
  · obtain ⟨x2, c2, c3, c4, c5, c6, c7, c8, c9, c10, c11, rfl⟩ := I
    clear x0 x1 x
    walk_at "go"
    refine e_comp (i_rng ?_)
    refine e_call N2.mg N2.kp ?_
    walk_at "go"
    refine x_sp N2.ok ⟨b, 10, _, rfl, by decide, by decide, x2, fun H3 i i0 i1 x3 => ?_⟩
    obtain ⟨n, rfl⟩ : ∃ n : Nat, i = (n : Int) := ⟨i.toNat, by omega⟩
    -- the steps
    have y0 : SL ((fun h => ∃ S : List Stp, S.length = 0 ∧ (∀ s ∈ S, Good s) ∧ StepsA [] S h) :: BoxA b :: []) H3 := (StepsA.nil x3).imp fun h z => ⟨[], rfl, by simp, z⟩
    refine k_rng (fun t acc => (fun h => ∃ S : List Stp, S.length = t ∧ (∀ s ∈ S, Good s) ∧ StepsA acc S h) :: BoxA b :: []) (by omega) y0 (fun t acc D H4 ht ha y => ?_) fun acc D H4 ha y => ?_
    · obtain ⟨S, y⟩ := y.swap.ex
      obtain ⟨hS, y⟩ := y.pure
      obtain ⟨g, y⟩ := y.pure
      show wE R k _ W0 [some (.ref a), some (.ref b), _, _, some (.int (t : Nat)), _, _, _, _, _, _, _] H4 _
      refine e_call N3.mg N3.kp ?_
      walk_at "go"
      refine x_sp N3.ok ⟨b, _, rfl, y.swap3, fun q s H5 gs y5 => ?_⟩
      refine CompN.of ha (by omega) ?_
      have y6 : SL (pt q (.tup (stepV s)) :: StepsA acc S :: BoxA b :: pt D (.lst acc) :: []) H5 := y5.perm ((List.Perm.swap _ _ _).cons _)
      refine (y6.step.imp (B := fun h => ∃ S : List Stp, S.length = t + 1 ∧ (∀ s ∈ S, Good s) ∧ StepsA (acc ++ [.ref q]) S h) fun h z => ⟨S ++ [s], by simp [hS], fun s' hs' => ?_, z⟩).perm ?_
      · rcases List.mem_append.mp hs' with h | h
        · exact g s' h
        · obtain rfl := List.mem_singleton.mp h
          exact gs
      · exact (List.perm_append_comm (l₁ := [_, _]) (l₂ := [_]))
    · obtain ⟨S, y⟩ := y.swap.ex
      obtain ⟨hS, y⟩ := y.pure
      obtain ⟨g, y⟩ := y.pure
      have hS9 : S.length ≤ 9 := by omega
      clear y0 x3 x2
      walk_at "go"
      rename_i pr H5 x5
      have x5 : SL (pt pr (.lst (((S.map rowS).map V.str).take 0)) :: pt D (.lst acc) :: StepsA acc S :: BoxA b :: []) H5 := x5.perm ((List.Perm.swap _ _ _).cons _)
      refine l_lst (fun j σ H => SL (pt pr (.lst (((S.map rowS).map V.str).take j)) :: pt D (.lst acc) :: StepsA acc S :: BoxA b :: []) H ∧ ∃ d4 d6 d7 d8 d9 d10 d11, σ = [some (.ref a), some (.ref b), some (.int (t : Nat)), some (.ref D), d4, some (.ref pr), d6, d7, d8, d9, d10, d11]) (sq_l (SL.get (.tail _ (.head _)) x5)) ⟨x5, _, _, _, _, _, _, _, rfl⟩
        (fun j σ H I => sq_l (SL.get (.tail _ (.head _)) I.1)) (fun j v σ H hv I => ?_) fun σ H I => ?_
      · obtain ⟨y, d4, d6, d7, d8, d9, d10, d11, rfl⟩ := I
        clear x5
        have hs := SL.up (fun _ _ => StepsA.up) (.tail _ (.tail _ (.head _))) y
        have hj : j < S.length := by rw [← hs.1]; exact (List.getElem?_eq_some_iff.mp hv).1
        obtain ⟨q, h1, h2⟩ := hs.2 j S[j] (List.getElem?_eq_getElem hj)
        rw [hv] at h1
        cases h1
        have gs := g S[j] (List.getElem_mem hj)
        have hst : (S.map rowS)[j]? = some (rowS S[j]) := by rw [List.getElem?_map, List.getElem?_eq_getElem hj]; rfl
        generalize S[j] = s at h2 gs hst
        have few := gs.few
        walk_at "go"
        refine s_tup0 (st_t h2) ?_
        walk_at "go"
        refine e_cut ?_
        walk_at "go"
        refine o_part ?_
        walk_at "go"
        refine o_no (cut_1 (st_t h2) fun q2 hn => ?_)
        have y2 := y.new (.tup (s.2.map fun n => V.int (n : Nat))) hn
        generalize upd H q2 (.tup (s.2.map fun n => V.int (n : Nat))) = H6 at y2
        refine l_tup (fun i σ H => SL (pt q2 (.tup (s.2.map fun n => V.int (n : Nat))) :: pt pr (.lst (((S.map rowS).map V.str).take j)) :: pt D (.lst acc) :: StepsA acc S :: BoxA b :: []) H ∧ ∃ e8, σ = [some (.ref a), some (.ref b), some (.int (t : Nat)), some (.ref D), d4, some (.ref pr), some (.ref q), some (.str (growS s.1 (s.2.take i))), e8, d9, d10, d11])
          (st_t (SL.get (.head _) y2)) ⟨y2, _, rfl⟩ (fun i σ H I => st_t (SL.get (.head _) I.1)) (fun i v σ H hv I => ?_) fun σ H I => ?_
        · obtain ⟨z, e8, rfl⟩ := I
          rw [List.getElem?_map] at hv
          obtain ⟨n, hn', rfl⟩ := Option.map_eq_some_iff.mp hv
          have nb := gs.n n (List.mem_of_getElem? hn')
          have l1 := grow_len (w := s.1) (ns := s.2.take i) (gs.parts_len _ (.head _)) (fun n h => gs.n n (List.mem_of_mem_take h)) (by rw [List.length_take]; omega)
          have l2 := (numS_len nb).2
          have l3 : (" " : Str).length = 1 := len1.2
          walk_at "go"
          refine b_addS (by omega) ?_
          walk_at "go"
          refine i_strI nb ?_
          refine b_addS (by rw [Str.length_append]; omega) ?_
          walk_at "go"
          refine ⟨z, some (.int (n : Nat)), ?_⟩
          rw [← grow_next hn']
          rfl
        · obtain ⟨z, e8, rfl⟩ := I
          rw [List.length_map, List.take_length, grow_row]
          walk_at "go"
          refine x_bm .append (by decide) (ty_l (sq_l (SL.get (.tail _ (.head _)) z))) ?_
          walk_at "go"
          refine m_app z (.tl .hd) (by rw [List.length_take]; simp; omega) fun H7 x7 => ?_
          walk_at "go"
          refine ⟨?_, _, _, _, _, _, _, _, rfl⟩
          rw [take_next (l := (S.map rowS).map V.str) (t := j) (y := .str (rowS s)) rfl (by rw [List.getElem?_map, hst]; rfl)] at x7
          exact x7.tail
      · obtain ⟨y, d4, d6, d7, d8, d9, d10, d11, rfl⟩ := I
        clear x5
        have hs := SL.up (fun _ _ => StepsA.up) (.tail _ (.tail _ (.head _))) y
        rw [List.take_of_length_le (by rw [hs.1, List.length_map, List.length_map]; exact Nat.le_refl _)] at y
        clear hs
        walk_at "go"
        refine x_bm .join (by decide) ty_s ?_
        walk_at "go"
        refine m_join (sq_l (SL.get (.head _) y)) (join_fits (m := 9) (b := 32) len1.1 (fun q hq => ?_) (by simpa using hS9) (by decide)) ?_
        · obtain ⟨s, hs, rfl⟩ := List.mem_map.mp hq
          exact (g s hs).row_len
        have y := y.tail
        show wSs R k _ _ _ [some (.ref a), some (.ref b), some (.int (t : Nat)), some (.ref D), d4, some (.ref pr), d6, d7, d8, some (.str (textS S)), d10, d11] _
        walk_at "go"
        refine i_list (sq_l (SL.get (.head _) y)) (n_o y fun ph H6 x6 => ?_)
        walk_at "go"
        refine e_call N4.mg N4.kp ?_
        refine es_cons ?_
        refine e_call N5.mg N5.kp ?_
        walk_at "go"
        refine x_sp N5.ok ⟨ph, acc, S, _, rfl, g, hS9, x6, .head _, .tail _ (.tail _ (.head _)), fun H7 x7 => ?_⟩
        walk_at "go"
        refine x_sp N4.ok ⟨_, _, .str (textS S), .str (textS S), rfl, .str _, .str _, rfl, by simp [PyData.depth], fun bb hb => ?_⟩
        obtain rfl : bb = true := hb.mpr rfl
        clear hb
        walk_at "go"
        have st := SL.up (fun _ _ => StepsA.up) (.tail _ (.tail _ (.head _))) x7
        refine c_neSteps g (dp_steps (sq_l (SL.get (.head _) x7)) st) (dp_steps (sq_l (SL.get (.tail _ (.head _)) x7)) st) ?_
        walk_at "go"
        refine e_call N6.mg N6.kp ?_
        walk_at "go"
        refine x_sp N6.ok ⟨S, _, rfl, g, hS9, x7.tail, fun pf xf H8 x8 => ?_⟩
        clear x7 x6 st
        walk_at "go"
        refine e_call N4.mg N4.kp ?_
        walk_at "go"
        have s1 := SL.up (fun _ _ => StepsA.up) (.tail _ (.head _)) x8
        have s2 := SL.up (fun _ _ => StepsA.up) (.tail _ (.tail _ (.tail _ (.head _)))) x8
        refine x_sp N4.ok ⟨_, _, stepsD S, stepsD S, rfl, dp_steps (sq_l (SL.get (.head _) x8)) s1, dp_steps (sq_l (SL.get (.tail _ (.tail _ (.head _))) x8)) s2, sz_all g hS9, dep_all S, fun bb hb => ?_⟩
        obtain rfl : bb = true := hb.mpr rfl
        clear hb
        walk_at "go"
        refine e_call N5.mg N5.kp ?_
        walk_at "go"
        refine x_sp N5.ok ⟨pf, xf, S, _, rfl, g, hS9, x8, .head _, .tail _ (.head _), fun H9 x9 => ?_⟩
        walk_at "go"
        refine c_neS ?_
        rw [decide_eq_true rfl]
        clear x8 s1 s2
        walk_at "go"
        refine x_bm .append (by decide) (ty_l (sq_l (SL.get (.head _) x9))) ?_
        walk_at "go"
        rename_i pt0 Ha xa
        have lf : xf.length = S.length := (SL.up (fun _ _ => StepsA.up) (.tail _ (.head _)) x9).1
        refine m_app xa (.tl .hd) (by omega) fun Hb xb => ?_
        have xb := xb.tail.tail.tail
        clear xa x9 lf
        walk_at "go"
        refine e_call N4.mg N4.kp ?_
        refine es_cons ?_
        refine e_call N6.mg N6.kp ?_
        walk_at "go"
        refine x_sp N6.ok ⟨S, _, rfl, g, hS9, xb, fun pg xg Hc xc => ?_⟩
        clear xb
        walk_at "go"
        have s1 := SL.up (fun _ _ => StepsA.up) (.tail _ (.head _)) xc
        have s2 := SL.up (fun _ _ => StepsA.up) (.tail _ (.tail _ (.tail _ (.head _)))) xc
        refine x_sp N4.ok ⟨_, _, stepsD S, stepsD S, rfl, dp_steps (sq_l (SL.get (.head _) xc)) s1, dp_steps (sq_l (SL.get (.tail _ (.tail _ (.head _))) xc)) s2, sz_all g hS9, dep_all S, fun bb hb => ?_⟩
        obtain rfl : bb = true := hb.mpr rfl
        clear hb
        walk_at "go"
        exact ⟨SL.drop (.hd) (SL.drop (.hd) (SL.drop (.hd) (SL.drop (.hd) xc))), _, _, _, _, _, _, _, _, _, _, rfl⟩
  · obtain ⟨x2, c2, c3, c4, c5, c6, c7, c8, c9, c10, c11, rfl⟩ := I
    walk_at "go"
    exact hq _

end Zw

set_option Elab.async false
set_option linter.all false
set_option maxRecDepth 100000
set_option maxHeartbeats 4000000
namespace Zw
open PySem PySem.Spec PyProof.Rows L2
def top14 (i : Nat) : Stmt := PySem.Challenge.pw_volumehall_k14_steps_written.main.body.getD i (.Pass ⟨0, 0, 0, 0⟩)
theorem c_begun : cSs N_begun 60 .no (defScope (top14 12)) (defBody (top14 12)) = some b_begun := by kernel_rfl
theorem s_begun : scopeB N_begun ["_law_script"] (defScope (top14 12)) = true := by decide +kernel
theorem c_take : cSs N_take 60 .no (defScope (top14 13)) (defBody (top14 13)) = some b_take := by kernel_rfl
theorem s_take : scopeB N_take ["_law_box", "_law_many"] (defScope (top14 13)) = true := by decide +kernel
theorem c_alike : cSs N_alike 60 .no (defScope (top14 14)) (defBody (top14 14)) = some b_alike := by kernel_rfl
theorem s_alike : scopeB N_alike ["_law_found", "_law_due"] (defScope (top14 14)) = true := by decide +kernel
theorem c_anystep : cSs N_anystep 60 .no (defScope (top14 15)) (defBody (top14 15)) = some b_anystep := by kernel_rfl
theorem s_anystep : scopeB N_anystep ["_law_box"] (defScope (top14 15)) = true := by decide +kernel
theorem c_law : cSs N_law14 60 .no (defScope (top14 16)) (defBody (top14 16)) = some b_law14 := by kernel_rfl
theorem s_law : scopeB N_law14 ["_law_script"] (defScope (top14 16)) = true := by decide +kernel
theorem c_written : cSs N_written 60 .no (defScope (top14 7)) (defBody (top14 7)) = some b_written := by kernel_rfl
theorem s_written : scopeB N_written ["steps"] (defScope (top14 7)) = true := by decide +kernel
theorem c_is_figures : cSs N_is_figures 60 .no (defScope (top14 8)) (defBody (top14 8)) = some b_is_figures := by kernel_rfl
theorem s_is_figures : scopeB N_is_figures ["text"] (defScope (top14 8)) = true := by decide +kernel
theorem c_read_row : cSs N_read_row 60 .no (defScope (top14 9)) (defBody (top14 9)) = some b_read_row := by kernel_rfl
theorem s_read_row : scopeB N_read_row ["row", "line"] (defScope (top14 9)) = true := by decide +kernel
theorem c_read : cSs N_read 60 .no (defScope (top14 10)) (defBody (top14 10)) = some b_read := by kernel_rfl
theorem s_read : scopeB N_read ["text"] (defScope (top14 10)) = true := by decide +kernel
/-- a def of the module as the top leaves it -/
structure DefAt (K : PySem.W.Frag) (mg : Str → Option Value) (x : Str) (st : Stmt) (f : Addr) (fd : FuncData) : Prop where
  mg : mg x = some (.ref f)
  fn : Fun K x x st f fd
theorem def_at {K : PySem.W.Frag} {h : Heap} {mg : Str → Option Value} (X : K.In h) (G : h.Ns mainGlobals mg) {x : Str} {st : Stmt} {f : Addr} {oc : Value} {od an : Option Addr} {osl : Array (Option Value)} {kV doc pm cdv ct : Value}
    (a : PySem.W.nsIn K mainGlobals x = some (some (.ref f))) (l : K.lookup f = some ⟨oc, od, .func (PySem.W.fnOf x x (defArgs st) (defBody st) (defScope st) .none kV doc pm an cdv ct), osl⟩)
    (c : PySem.W.codeIn K cdv x = true) (k : PySem.W.keepIn K (.ref f) = true) : ∃ fd, DefAt K mg x st f fd ∧ fd = PySem.W.fnOf x x (defArgs st) (defBody st) (defScope st) .none kV doc pm an cdv ct := ⟨_, ⟨PySem.W.mg_of X G a, fun_mk l c k⟩, rfl⟩
theorem all14 {l : PySem.W.OpenLaw} {w : World} {K : PySem.W.Frag} {h : Heap} {mg : Str → Option Value} {fa : Addr} (X : K.In h) (G : h.Ns mainGlobals mg) (hfa : mg "law" = some (.ref fa))
    {f0 : Addr} {oc0 : Value} {od0 an0 : Option Addr} {osl0 : Array (Option Value)} {kV0 doc0 pm0 cdv0 ct0 : Value}
    (a0 : PySem.W.nsIn K mainGlobals "_law_begun" = some (some (.ref f0))) (l0 : K.lookup f0 = some ⟨oc0, od0, .func (PySem.W.fnOf "_law_begun" "_law_begun" (defArgs (top14 12)) (defBody (top14 12)) (defScope (top14 12)) .none kV0 doc0 pm0 an0 cdv0 ct0), osl0⟩) (c0 : PySem.W.codeIn K cdv0 "_law_begun" = true) (k0 : PySem.W.keepIn K (.ref f0) = true)
    {f1 : Addr} {oc1 : Value} {od1 an1 : Option Addr} {osl1 : Array (Option Value)} {kV1 doc1 pm1 cdv1 ct1 : Value}
    (a1 : PySem.W.nsIn K mainGlobals "_law_take" = some (some (.ref f1))) (l1 : K.lookup f1 = some ⟨oc1, od1, .func (PySem.W.fnOf "_law_take" "_law_take" (defArgs (top14 13)) (defBody (top14 13)) (defScope (top14 13)) .none kV1 doc1 pm1 an1 cdv1 ct1), osl1⟩) (c1 : PySem.W.codeIn K cdv1 "_law_take" = true) (k1 : PySem.W.keepIn K (.ref f1) = true)
    {f2 : Addr} {oc2 : Value} {od2 an2 : Option Addr} {osl2 : Array (Option Value)} {kV2 doc2 pm2 cdv2 ct2 : Value}
    (a2 : PySem.W.nsIn K mainGlobals "_law_alike" = some (some (.ref f2))) (l2 : K.lookup f2 = some ⟨oc2, od2, .func (PySem.W.fnOf "_law_alike" "_law_alike" (defArgs (top14 14)) (defBody (top14 14)) (defScope (top14 14)) .none kV2 doc2 pm2 an2 cdv2 ct2), osl2⟩) (c2 : PySem.W.codeIn K cdv2 "_law_alike" = true) (k2 : PySem.W.keepIn K (.ref f2) = true)
    {f3 : Addr} {oc3 : Value} {od3 an3 : Option Addr} {osl3 : Array (Option Value)} {kV3 doc3 pm3 cdv3 ct3 : Value}
    (a3 : PySem.W.nsIn K mainGlobals "_law_anystep" = some (some (.ref f3))) (l3 : K.lookup f3 = some ⟨oc3, od3, .func (PySem.W.fnOf "_law_anystep" "_law_anystep" (defArgs (top14 15)) (defBody (top14 15)) (defScope (top14 15)) .none kV3 doc3 pm3 an3 cdv3 ct3), osl3⟩) (c3 : PySem.W.codeIn K cdv3 "_law_anystep" = true) (k3 : PySem.W.keepIn K (.ref f3) = true)
    {f4 : Addr} {oc4 : Value} {od4 an4 : Option Addr} {osl4 : Array (Option Value)} {kV4 doc4 pm4 cdv4 ct4 : Value}
    (a4 : PySem.W.nsIn K mainGlobals "law" = some (some (.ref f4))) (l4 : K.lookup f4 = some ⟨oc4, od4, .func (PySem.W.fnOf "law" "law" (defArgs (top14 16)) (defBody (top14 16)) (defScope (top14 16)) .none kV4 doc4 pm4 an4 cdv4 ct4), osl4⟩) (c4 : PySem.W.codeIn K cdv4 "law" = true) (k4 : PySem.W.keepIn K (.ref f4) = true)
    {f5 : Addr} {oc5 : Value} {od5 an5 : Option Addr} {osl5 : Array (Option Value)} {kV5 doc5 pm5 cdv5 ct5 : Value}
    (a5 : PySem.W.nsIn K mainGlobals "written" = some (some (.ref f5))) (l5 : K.lookup f5 = some ⟨oc5, od5, .func (PySem.W.fnOf "written" "written" (defArgs (top14 7)) (defBody (top14 7)) (defScope (top14 7)) .none kV5 doc5 pm5 an5 cdv5 ct5), osl5⟩) (c5 : PySem.W.codeIn K cdv5 "written" = true) (k5 : PySem.W.keepIn K (.ref f5) = true)
    {f6 : Addr} {oc6 : Value} {od6 an6 : Option Addr} {osl6 : Array (Option Value)} {kV6 doc6 pm6 cdv6 ct6 : Value}
    (a6 : PySem.W.nsIn K mainGlobals "is_figures" = some (some (.ref f6))) (l6 : K.lookup f6 = some ⟨oc6, od6, .func (PySem.W.fnOf "is_figures" "is_figures" (defArgs (top14 8)) (defBody (top14 8)) (defScope (top14 8)) .none kV6 doc6 pm6 an6 cdv6 ct6), osl6⟩) (c6 : PySem.W.codeIn K cdv6 "is_figures" = true) (k6 : PySem.W.keepIn K (.ref f6) = true)
    {f7 : Addr} {oc7 : Value} {od7 an7 : Option Addr} {osl7 : Array (Option Value)} {kV7 doc7 pm7 cdv7 ct7 : Value}
    (a7 : PySem.W.nsIn K mainGlobals "read_row" = some (some (.ref f7))) (l7 : K.lookup f7 = some ⟨oc7, od7, .func (PySem.W.fnOf "read_row" "read_row" (defArgs (top14 9)) (defBody (top14 9)) (defScope (top14 9)) .none kV7 doc7 pm7 an7 cdv7 ct7), osl7⟩) (c7 : PySem.W.codeIn K cdv7 "read_row" = true) (k7 : PySem.W.keepIn K (.ref f7) = true)
    {f8 : Addr} {oc8 : Value} {od8 an8 : Option Addr} {osl8 : Array (Option Value)} {kV8 doc8 pm8 cdv8 ct8 : Value}
    (a8 : PySem.W.nsIn K mainGlobals "read" = some (some (.ref f8))) (l8 : K.lookup f8 = some ⟨oc8, od8, .func (PySem.W.fnOf "read" "read" (defArgs (top14 10)) (defBody (top14 10)) (defScope (top14 10)) .none kV8 doc8 pm8 an8 cdv8 ct8), osl8⟩) (c8 : PySem.W.codeIn K cdv8 "read" = true) (k8 : PySem.W.keepIn K (.ref f8) = true)
    {t1 t2 : Tok} {pw : Addr} {es : Array DictEntry} {en : Nat} (m1 : PySem.W.nsIn K mainGlobals "MOST_FIGURES" = some (some (.int 4 t1))) (m2 : PySem.W.nsIn K mainGlobals "FIGURES" = some (some (.str figures t2))) (m3 : PySem.W.nsIn K mainGlobals "WORDS" = some (some (.ref pw)))
    (d1 : K.lookup pw = some ⟨.type "dict", none, .dict es en, #[]⟩) (d2 : PySem.W.KeysLit w.params es.toList) (d3 : (pw == sysModules) = false)
    {u0 : Tok} (w0 : PySem.W.nsIn K pw "make" = some (some (.int 3 u0)))
    {u1 : Tok} (w1 : PySem.W.nsIn K pw "grow" = some (some (.int 2 u1)))
    {u2 : Tok} (w2 : PySem.W.nsIn K pw "drop" = some (some (.int 1 u2)))
    {u3 : Tok} (w3 : PySem.W.nsIn K pw "mirror" = some (some (.int 2 u3)))
    {u4 : Tok} (w4 : PySem.W.nsIn K pw "leave" = some (some (.int 1 u4)))
    {u5 : Tok} (w5 : PySem.W.nsIn K pw "stay" = some (some (.int 1 u5)))
    {u6 : Tok} (w6 : PySem.W.nsIn K pw "read" = some (some (.int 2 u6)))
    {u7 : Tok} (w7 : PySem.W.nsIn K pw "write" = some (some (.int 3 u7)))
    {u8 : Tok} (w8 : PySem.W.nsIn K pw "step" = some (some (.int 0 u8)))
    {u9 : Tok} (w9 : PySem.W.nsIn K pw "room" = some (some (.int 1 u9)))
    {u10 : Tok} (w10 : PySem.W.nsIn K pw "lacks" = some (some (.int 0 u10)))
    {u11 : Tok} (w11 : PySem.W.nsIn K pw "lost" = some (some (.int 0 u11)))
    {u12 : Tok} (w12 : PySem.W.nsIn K pw "volumes" = some (some (.int 0 u12)))
    {u13 : Tok} (w13 : PySem.W.nsIn K pw "places" = some (some (.int 1 u13)))
    {u14 : Tok} (w14 : PySem.W.nsIn K pw "copying" = some (some (.int 0 u14)))
    {u15 : Tok} (w15 : PySem.W.nsIn K pw "lose" = some (some (.int 1 u15)))
    {u16 : Tok} (w16 : PySem.W.nsIn K pw "bring" = some (some (.int 2 u16)))
    {u17 : Tok} (w17 : PySem.W.nsIn K pw "arm" = some (some (.int 1 u17)))
    {u18 : Tok} (w18 : PySem.W.nsIn K pw "again" = some (some (.int 0 u18)))
    (z0 : PySem.W.nsIn K mainGlobals "len" = some none)
    (z1 : PySem.W.nsIn K mainGlobals "isinstance" = some none)
    (z2 : PySem.W.nsIn K mainGlobals "int" = some none)
    (z3 : PySem.W.nsIn K mainGlobals "bool" = some none)
    (z4 : PySem.W.nsIn K mainGlobals "str" = some none)
    (z5 : PySem.W.nsIn K mainGlobals "list" = some none)
    (z6 : PySem.W.nsIn K mainGlobals "tuple" = some none)
    (z7 : PySem.W.nsIn K mainGlobals "sorted" = some none)
    (z8 : PySem.W.nsIn K mainGlobals "min" = some none)
    (z9 : PySem.W.nsIn K mainGlobals "max" = some none)
    (z10 : PySem.W.nsIn K mainGlobals "abs" = some none)
    (z11 : PySem.W.nsIn K mainGlobals "sum" = some none)
    (z12 : PySem.W.nsIn K mainGlobals "any" = some none)
    (z13 : PySem.W.nsIn K mainGlobals "all" = some none)
    (z14 : PySem.W.nsIn K mainGlobals "dict" = some none)
    (z15 : PySem.W.nsIn K mainGlobals "range" = some none)
    (z16 : PySem.W.nsIn K mainGlobals "enumerate" = some none)
    (z17 : PySem.W.nsIn K mainGlobals "zip" = some none)
    (z18 : PySem.W.nsIn K mainGlobals "ValueError" = some none)
    : ∃ fd : FuncData, (∀ (s : Shared) (v : Value), BindsTo s fd ⟨[v], []⟩ [("_law_script", v)]) ∧ ∀ base : Heap, K.In base → base.Ns mainGlobals mg → FnOk l.prog w K mg base (L2.CX l.prog w) 10 fa fd ["_law_script"] (spLaw14 K) := by
  have e := hfa.symm.trans (PySem.W.mg_of X G a4)
  cases e
  have F0 := fun_mk (st := top14 12) l0 c0 k0
  have b0 := F0.binds (ps := ["_law_script"]) fun _ _ _ _ _ _ us hl => match us, hl with | [_], _ => rfl
  have F1 := fun_mk (st := top14 13) l1 c1 k1
  have b1 := F1.binds (ps := ["_law_box", "_law_many"]) fun _ _ _ _ _ _ us hl => match us, hl with | [_, _], _ => rfl
  have F2 := fun_mk (st := top14 14) l2 c2 k2
  have b2 := F2.binds (ps := ["_law_found", "_law_due"]) fun _ _ _ _ _ _ us hl => match us, hl with | [_, _], _ => rfl
  have F3 := fun_mk (st := top14 15) l3 c3 k3
  have b3 := F3.binds (ps := ["_law_box"]) fun _ _ _ _ _ _ us hl => match us, hl with | [_], _ => rfl
  have F4 := fun_mk (st := top14 16) l4 c4 k4
  have b4 := F4.binds (ps := ["_law_script"]) fun _ _ _ _ _ _ us hl => match us, hl with | [_], _ => rfl
  have F5 := fun_mk (st := top14 7) l5 c5 k5
  have b5 := F5.binds (ps := ["steps"]) fun _ _ _ _ _ _ us hl => match us, hl with | [_], _ => rfl
  have F6 := fun_mk (st := top14 8) l6 c6 k6
  have b6 := F6.binds (ps := ["text"]) fun _ _ _ _ _ _ us hl => match us, hl with | [_], _ => rfl
  have F7 := fun_mk (st := top14 9) l7 c7 k7
  have b7 := F7.binds (ps := ["row", "line"]) fun _ _ _ _ _ _ us hl => match us, hl with | [_, _], _ => rfl
  have F8 := fun_mk (st := top14 10) l8 c8 k8
  have b8 := F8.binds (ps := ["text"]) fun _ _ _ _ _ _ us hl => match us, hl with | [_], _ => rfl
  have blt : ∀ x ∈ bltNames, mg x = none := by
    intro x hx
    simp only [bltNames, List.mem_cons, List.not_mem_nil, or_false] at hx
    rcases hx with rfl | rfl | rfl | rfl | rfl | rfl | rfl | rfl | rfl | rfl | rfl | rfl | rfl | rfl | rfl | rfl | rfl | rfl | rfl
    · exact PySem.W.mg_none_of X G z0
    · exact PySem.W.mg_none_of X G z1
    · exact PySem.W.mg_none_of X G z2
    · exact PySem.W.mg_none_of X G z3
    · exact PySem.W.mg_none_of X G z4
    · exact PySem.W.mg_none_of X G z5
    · exact PySem.W.mg_none_of X G z6
    · exact PySem.W.mg_none_of X G z7
    · exact PySem.W.mg_none_of X G z8
    · exact PySem.W.mg_none_of X G z9
    · exact PySem.W.mg_none_of X G z10
    · exact PySem.W.mg_none_of X G z11
    · exact PySem.W.mg_none_of X G z12
    · exact PySem.W.mg_none_of X G z13
    · exact PySem.W.mg_none_of X G z14
    · exact PySem.W.mg_none_of X G z15
    · exact PySem.W.mg_none_of X G z16
    · exact PySem.W.mg_none_of X G z17
    · exact PySem.W.mg_none_of X G z18
  have W0 : ∀ p ∈ words, KHas K w pw p.1 true ∧ KDct K w pw p.1 (.int (p.2 : Nat)) := by
    intro p hp
    simp only [words, List.mem_cons, List.not_mem_nil, or_false] at hp
    rcases hp with rfl | rfl | rfl | rfl | rfl | rfl | rfl | rfl | rfl | rfl | rfl | rfl | rfl | rfl | rfl | rfl | rfl | rfl | rfl
    · exact ⟨⟨es, en, _, d1, d2, d3, w0, rfl⟩, es, en, _, d1, d2, w0, ⟨_, rfl⟩⟩
    · exact ⟨⟨es, en, _, d1, d2, d3, w1, rfl⟩, es, en, _, d1, d2, w1, ⟨_, rfl⟩⟩
    · exact ⟨⟨es, en, _, d1, d2, d3, w2, rfl⟩, es, en, _, d1, d2, w2, ⟨_, rfl⟩⟩
    · exact ⟨⟨es, en, _, d1, d2, d3, w3, rfl⟩, es, en, _, d1, d2, w3, ⟨_, rfl⟩⟩
    · exact ⟨⟨es, en, _, d1, d2, d3, w4, rfl⟩, es, en, _, d1, d2, w4, ⟨_, rfl⟩⟩
    · exact ⟨⟨es, en, _, d1, d2, d3, w5, rfl⟩, es, en, _, d1, d2, w5, ⟨_, rfl⟩⟩
    · exact ⟨⟨es, en, _, d1, d2, d3, w6, rfl⟩, es, en, _, d1, d2, w6, ⟨_, rfl⟩⟩
    · exact ⟨⟨es, en, _, d1, d2, d3, w7, rfl⟩, es, en, _, d1, d2, w7, ⟨_, rfl⟩⟩
    · exact ⟨⟨es, en, _, d1, d2, d3, w8, rfl⟩, es, en, _, d1, d2, w8, ⟨_, rfl⟩⟩
    · exact ⟨⟨es, en, _, d1, d2, d3, w9, rfl⟩, es, en, _, d1, d2, w9, ⟨_, rfl⟩⟩
    · exact ⟨⟨es, en, _, d1, d2, d3, w10, rfl⟩, es, en, _, d1, d2, w10, ⟨_, rfl⟩⟩
    · exact ⟨⟨es, en, _, d1, d2, d3, w11, rfl⟩, es, en, _, d1, d2, w11, ⟨_, rfl⟩⟩
    · exact ⟨⟨es, en, _, d1, d2, d3, w12, rfl⟩, es, en, _, d1, d2, w12, ⟨_, rfl⟩⟩
    · exact ⟨⟨es, en, _, d1, d2, d3, w13, rfl⟩, es, en, _, d1, d2, w13, ⟨_, rfl⟩⟩
    · exact ⟨⟨es, en, _, d1, d2, d3, w14, rfl⟩, es, en, _, d1, d2, w14, ⟨_, rfl⟩⟩
    · exact ⟨⟨es, en, _, d1, d2, d3, w15, rfl⟩, es, en, _, d1, d2, w15, ⟨_, rfl⟩⟩
    · exact ⟨⟨es, en, _, d1, d2, d3, w16, rfl⟩, es, en, _, d1, d2, w16, ⟨_, rfl⟩⟩
    · exact ⟨⟨es, en, _, d1, d2, d3, w17, rfl⟩, es, en, _, d1, d2, w17, ⟨_, rfl⟩⟩
    · exact ⟨⟨es, en, _, d1, d2, d3, w18, rfl⟩, es, en, _, d1, d2, w18, ⟨_, rfl⟩⟩
  refine ⟨PySem.W.fnOf "law" "law" (defArgs (top14 16)) (defBody (top14 16)) (defScope (top14 16)) .none kV4 doc4 pm4 an4 cdv4 ct4, fun s v => .of_eq rfl, fun base KB GB => ?_⟩
  have H0 : Has ⟨l.prog, w, K, mg, base⟩ 9 "_law_begun" f0 (spBegun K) := ⟨PySem.W.mg_of X G a0, k0, CallOk.fn (R := ⟨l.prog, w, K, mg, base⟩) (fn_begun (R := ⟨l.prog, w, K, mg, base⟩) (k := 0) F0 blt s_begun c_begun) b0 (by decide)⟩
  have H1 : Has ⟨l.prog, w, K, mg, base⟩ 9 "_law_take" f1 spTake := ⟨PySem.W.mg_of X G a1, k1, CallOk.fn (R := ⟨l.prog, w, K, mg, base⟩) (fn_take (R := ⟨l.prog, w, K, mg, base⟩) (k := 0) F1 blt s_take c_take) b1 (by decide)⟩
  have H2 : Has ⟨l.prog, w, K, mg, base⟩ 9 "_law_alike" f2 (spAlike K 2) := ⟨PySem.W.mg_of X G a2, k2, CallOk.fn (R := ⟨l.prog, w, K, mg, base⟩) (fn_alike (R := ⟨l.prog, w, K, mg, base⟩) F2 b2 (PySem.W.mg_of X G a2) k2 blt s_alike c_alike 2) b2 (by decide)⟩
  have A3 : FnOk l.prog w K mg base (L2.CX l.prog w) 2 f3 _ ["_law_box"] spAny := fn_wp (R := ⟨l.prog, w, K, mg, base⟩) (k := 1) F3 s_anystep c_anystep blt (fun vs H Q E h => by obtain ⟨_, _, rfl, _⟩ := h; rfl) fun vs H Q E h => w_anystep (R := ⟨⟨l.prog, w, K, mg, base⟩, [], fun _ _ _ => False, none⟩) ⟨H1.mg, H1.kp, CallOk.fn (R := ⟨l.prog, w, K, mg, base⟩) (fn_take (R := ⟨l.prog, w, K, mg, base⟩) (k := 0) F1 blt s_take c_take) b1 (by decide)⟩ h
  have H3 : Has ⟨l.prog, w, K, mg, base⟩ 9 "_law_anystep" f3 spAny := ⟨PySem.W.mg_of X G a3, k3, CallOk.fn (R := ⟨l.prog, w, K, mg, base⟩) A3 b3 (by decide)⟩
  have A5 : FnOk l.prog w K mg base (L2.CX l.prog w) 1 f5 _ ["steps"] spWritten := fn_wp (R := ⟨l.prog, w, K, mg, base⟩) (k := 0) F5 s_written c_written blt (fun vs H Q E h => by obtain ⟨_, _, _, _, rfl, _⟩ := h; rfl) fun vs H Q E h => w_written (R := ⟨⟨l.prog, w, K, mg, base⟩, [], fun _ _ _ => False, none⟩) h
  have H5 : Has ⟨l.prog, w, K, mg, base⟩ 9 "written" f5 spWritten := ⟨PySem.W.mg_of X G a5, k5, CallOk.fn (R := ⟨l.prog, w, K, mg, base⟩) A5 b5 (by decide)⟩
  have A6 : FnOk l.prog w K mg base (L2.CX l.prog w) 1 f6 _ ["text"] spFig := fn_wp (R := ⟨l.prog, w, K, mg, base⟩) (k := 0) F6 s_is_figures c_is_figures blt (fun vs H Q E h => by obtain ⟨_, _, rfl, _⟩ := h; rfl) fun vs H Q E h => w_is_figures (R := ⟨⟨l.prog, w, K, mg, base⟩, [], fun _ _ _ => False, none⟩) ⟨_, PySem.W.mg_of X G m1⟩ ⟨_, PySem.W.mg_of X G m2⟩ h
  have A7 : FnOk l.prog w K mg base (L2.CX l.prog w) 2 f7 _ ["row", "line"] spRow := fn_wp (R := ⟨l.prog, w, K, mg, base⟩) (k := 1) F7 s_read_row c_read_row blt (fun vs H Q E h => by obtain ⟨_, _, _, rfl, _⟩ := h; rfl) fun vs H Q E h => w_read_row (R := ⟨⟨l.prog, w, K, mg, base⟩, [], fun _ _ _ => False, none⟩) ⟨PySem.W.mg_of X G a6, k6, CallOk.fn (R := ⟨l.prog, w, K, mg, base⟩) A6 b6 (by decide)⟩ (pw := pw) ⟨PySem.W.mg_of X G m3, W0⟩ h
  have A8 : FnOk l.prog w K mg base (L2.CX l.prog w) 3 f8 _ ["text"] spRead := fn_wp (R := ⟨l.prog, w, K, mg, base⟩) (k := 2) F8 s_read c_read blt (fun vs H Q E h => by obtain ⟨_, _, rfl, _⟩ := h; rfl) fun vs H Q E h => w_read (R := ⟨⟨l.prog, w, K, mg, base⟩, [], fun _ _ _ => False, none⟩) ⟨PySem.W.mg_of X G a7, k7, CallOk.fn (R := ⟨l.prog, w, K, mg, base⟩) A7 b7 (by decide)⟩ h
  have H8 : Has ⟨l.prog, w, K, mg, base⟩ 9 "read" f8 spRead := ⟨PySem.W.mg_of X G a8, k8, CallOk.fn (R := ⟨l.prog, w, K, mg, base⟩) A8 b8 (by decide)⟩
  exact fn_wp (R := ⟨l.prog, w, K, mg, base⟩) (k := 9) F4 s_law c_law blt (fun vs H Q E h => by obtain ⟨_, _, rfl, _⟩ := h; rfl) fun vs H Q E h => w_law14 (R := ⟨⟨l.prog, w, K, mg, base⟩, [], fun _ _ _ => False, none⟩) H0 H1 H3 H2 H5 H8 h
theorem walk14 {l : PySem.W.OpenLaw} {q : Program} {loose : List Str} {XP : (Str → Option Value) → Heap → Prop} {YP : World → Heap → Prop} {d : DefRec} {K : Params → PySem.W.Frag} (hn : l.most = some 63) (hdf : d.params.defaults = [])
    (hY : ∀ (w : World) (h : Heap), YP w h → (K w.params).In h)
    (F : ∀ (w : World) (mg : Str → Option Value) (fa : Addr) (h : Heap), (K w.params).In h → h.Ns mainGlobals mg → mg d.name = some (.ref fa) →
      ∃ fd : FuncData, (∀ (s : Shared) (u : Value), BindsTo s fd ⟨[u], []⟩ [("_law_script", u)]) ∧ ∀ base : Heap, (K w.params).In base → base.Ns mainGlobals mg → FnOk l.prog w (K w.params) mg base (L2.CX l.prog w) 10 fa fd ["_law_script"] (spLaw14 (K w.params))) :
    PySem.W.WalkO q loose XP YP l.row.toRowW d [] (fun f vs => PySem.call f vs) :=
  L2.walk_of (n := 63) (k := 10) (x := "_law_script") (CX := fun w => L2.CX l.prog w) (sp := fun w => spLaw14 (K w.params)) hn (by decide) hdf ⟨rfl, by decide, by decide⟩ hY F (fun _ _ a ns hl _ hS => ⟨a, ns, rfl, Nat.le_trans hl (by decide), hS, fun _ => rfl⟩) fun w H s e s' z => by
    obtain ⟨_, _, _, _, _, _, _, _, _, _, _, _, z⟩ := z
    exact z

end Zw

set_option Elab.async false
set_option linter.all false
open PySem PySem.W PyProof.Rows
set_option maxRecDepth 100000 in
set_option maxHeartbeats 0 in
theorem PySem.Challenge.cw_volumehall_k14_steps_written_holds : PySem.Challenge.rw_volumehall_k14_steps_written.Holds := by
  w_on; o_law; k_head; (case hw => w_witness2)
  k_fill
  refine Zw.walk14 (l := PySem.Challenge.rw_volumehall_k14_steps_written) rfl rfl (fun w h Y => PySem.W.kIn_of Y) ?F
  case F =>
    intro w mg fa h KX G hmg
    refine' Zw.all14 KX G hmg ?a0 ?l0 ?c0 ?k0 ?a1 ?l1 ?c1 ?k1 ?a2 ?l2 ?c2 ?k2 ?a3 ?l3 ?c3 ?k3 ?a4 ?l4 ?c4 ?k4 ?a5 ?l5 ?c5 ?k5 ?a6 ?l6 ?c6 ?k6 ?a7 ?l7 ?c7 ?k7 ?a8 ?l8 ?c8 ?k8 ?m1 ?m2 ?m3 ?d1 ?d2 ?d3 ?w0 ?w1 ?w2 ?w3 ?w4 ?w5 ?w6 ?w7 ?w8 ?w9 ?w10 ?w11 ?w12 ?w13 ?w14 ?w15 ?w16 ?w17 ?w18 ?z0 ?z1 ?z2 ?z3 ?z4 ?z5 ?z6 ?z7 ?z8 ?z9 ?z10 ?z11 ?z12 ?z13 ?z14 ?z15 ?z16 ?z17 ?z18
    (case a0 => k_is)
    (case l0 => k_is)
    (case c0 => k_is)
    (case k0 => k_is)
    (case a1 => k_is)
    (case l1 => k_is)
    (case c1 => k_is)
    (case k1 => k_is)
    (case a2 => k_is)
    (case l2 => k_is)
    (case c2 => k_is)
    (case k2 => k_is)
    (case a3 => k_is)
    (case l3 => k_is)
    (case c3 => k_is)
    (case k3 => k_is)
    (case a4 => k_is)
    (case l4 => k_is)
    (case c4 => k_is)
    (case k4 => k_is)
    (case a5 => k_is)
    (case l5 => k_is)
    (case c5 => k_is)
    (case k5 => k_is)
    (case a6 => k_is)
    (case l6 => k_is)
    (case c6 => k_is)
    (case k6 => k_is)
    (case a7 => k_is)
    (case l7 => k_is)
    (case c7 => k_is)
    (case k7 => k_is)
    (case a8 => k_is)
    (case l8 => k_is)
    (case c8 => k_is)
    (case k8 => k_is)
    (case m1 => k_is)
    (case m2 => k_is)
    (case m3 => k_is)
    (case d1 => k_is)
    (case d2 => repeat (first | exact trivial | exact ⟨⟨_, _, rfl, rfl⟩, trivial⟩ | refine ⟨⟨_, _, rfl, rfl⟩, ?_⟩))
    (case d3 => first | k_is | rfl | decide +kernel)
    (case w0 => k_is)
    (case w1 => k_is)
    (case w2 => k_is)
    (case w3 => k_is)
    (case w4 => k_is)
    (case w5 => k_is)
    (case w6 => k_is)
    (case w7 => k_is)
    (case w8 => k_is)
    (case w9 => k_is)
    (case w10 => k_is)
    (case w11 => k_is)
    (case w12 => k_is)
    (case w13 => k_is)
    (case w14 => k_is)
    (case w15 => k_is)
    (case w16 => k_is)
    (case w17 => k_is)
    (case w18 => k_is)
    (case z0 => k_is)
    (case z1 => k_is)
    (case z2 => k_is)
    (case z3 => k_is)
    (case z4 => k_is)
    (case z5 => k_is)
    (case z6 => k_is)
    (case z7 => k_is)
    (case z8 => k_is)
    (case z9 => k_is)
    (case z10 => k_is)
    (case z11 => k_is)
    (case z12 => k_is)
    (case z13 => k_is)
    (case z14 => k_is)
    (case z15 => k_is)
    (case z16 => k_is)
    (case z17 => k_is)
    (case z18 => k_is)
