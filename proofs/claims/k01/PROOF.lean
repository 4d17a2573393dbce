import PyProof.Rows.All
import Wide.All
import OpenK.AllK
import Wide.FinOn
import HandS.ForMost
import HandS.IsInst
import HandS.Exc
import HandS.ExcOwn
import HandS.TryOnly
import HandS.WordsExc
import HandS.ExcIs
import HandS.ExcInit
import HandS.ExcCtx
import HandS.HotCalls
import HandS.ExcInitHot
import HandS.ExcField
import HandS.Defaults
import HandS.Head0
import HandS.Head1
import HandS.Head2
import HandS.HeadEnd
import HandS.HeadHook1
import HandS.HeadHook2
import HandS.HeadHook3
import HandS.HeadHook4
import HandS.HeadWalk
import HandS.EndTab
import HandS.TryMany
import HandS.Dict
import HandS.Nested
import HandS.NestedK
import HandS.Rev
import HandS.TupAny
import HandS.Codes
import HandS.Text
import HandS.Comp
import HandS.ListEq
import HandS.DeepEq
import PyProof.NeKinds
import HandS.AnyAll
import HandS.Walk
import HandS.SortKw
import KE.GoesEnumKw
import HandS.More
import HandS.CallLocal
import HandS.Words
import HandS.DictTup
import KE.KItemsList
import HandS.Flow
import KE.KIntText
import HandS.Style
import PySem.Challenge.RW_handshaker_k01_expressions_written_and_r
set_option Elab.async false
set_option maxRecDepth 100000
set_option maxHeartbeats 4000000
set_option linter.all false
/-! data as trees, how they lie in a heap, heaps that grow -/
namespace YF
open PySem PySem.Spec PyProof.Rows L2
abbrev St := L2.St

/-- a tree of data; a row of trees is a chain of cons -/
inductive D where
  | non | bl (b : Bool) | int (i : Int) | str (x : Str) | tup (ds : D) | lst (ds : D) | nil | cons (d ds : D)
  deriving DecidableEq
namespace D
def row : List D → D
  | [] => .nil
  | d :: r => .cons d (row r)
def isRow : D → Bool
  | .nil => true
  | .cons _ r => isRow r
  | _ => false
def dep : D → Nat
  | .tup ds => dep ds + 1
  | .lst ds => dep ds + 1
  | .cons d r => max (dep d) (dep r)
  | _ => 0
def len : D → Nat
  | .cons _ r => len r + 1
  | _ => 0
/-- a tree proper: rows stand in tuples and lists alone -/
def ok : D → Bool
  | .tup ds => isRow ds && ok ds
  | .lst ds => isRow ds && ok ds
  | .nil => true
  | .cons d r => !isRow d && ok d && isRow r && ok r
  | _ => true
end D
/-- the values vs are the trees of the row; of a tree that is no row: the one value -/
def Rp (K : PySem.W.Frag) (H : Hp) : D → List V → Prop
  | .non, vs => vs = [.non]
  | .bl b, vs => vs = [.bl b]
  | .int i, vs => vs = [.int i]
  | .str x, vs => vs = [.str x]
  | .tup ds, vs => ∃ a xs, vs = [.ref a] ∧ SqT K H a xs ∧ xs.length ≤ 100000 ∧ Rp K H ds xs
  | .lst ds, vs => ∃ a xs, vs = [.ref a] ∧ SqL K H a xs ∧ xs.length ≤ 100000 ∧ Rp K H ds xs
  | .nil, vs => vs = []
  | .cons d r, vs => ∃ x xs, vs = x :: xs ∧ Rp K H d [x] ∧ Rp K H r xs
section
variable {K : PySem.W.Frag} {H H' : Hp}
theorem Same.sqL {a : Addr} {xs : List V} (e : Same H H') (h : SqL K H a xs) : SqL K H' a xs := Same.seq e h
theorem Same.sqT {a : Addr} {xs : List V} (e : Same H H') (h : SqT K H a xs) : SqT K H' a xs := by
  rcases h with (h | ⟨o, h⟩) | h
  · exact .inl (.inl (e _ _ h))
  · exact .inl (.inr ⟨o, e _ _ h⟩)
  · exact .inr h
theorem Rp.mono (e : Same H H') : ∀ {d : D} {vs : List V}, Rp K H d vs → Rp K H' d vs
  | .non, _, h => h
  | .bl _, _, h => h
  | .int _, _, h => h
  | .str _, _, h => h
  | .tup _, _, ⟨a, xs, e1, h1, h2, h3⟩ => ⟨a, xs, e1, Same.sqT e h1, h2, Rp.mono e h3⟩
  | .lst _, _, ⟨a, xs, e1, h1, h2, h3⟩ => ⟨a, xs, e1, Same.sqL e h1, h2, Rp.mono e h3⟩
  | .nil, _, h => h
  | .cons _ _, _, ⟨x, xs, e1, h1, h2⟩ => ⟨x, xs, e1, Rp.mono e h1, Rp.mono e h2⟩
theorem Rp.row_len : ∀ {d : D} {vs : List V}, d.isRow = true → Rp K H d vs → vs.length = d.len
  | .nil, _, _, h => by
    have e : _ = [] := h
    rw [e]
    rfl
  | .cons _ r, _, q, ⟨x, xs, e1, _, h2⟩ => by
    subst e1
    have := Rp.row_len (d := r) q h2
    simp [D.len, this]
theorem Rp.at_ : ∀ {d : D} {vs ws : List V} {i : Nat} {v : V}, d.isRow = true → d.ok = true → Rp K H d vs → vs[i]? = some v → Rp K H d ws → ∃ (c : D) (u : V), ws[i]? = some u ∧ c.isRow = false ∧ c.ok = true ∧ c.dep ≤ d.dep ∧ Rp K H c [v] ∧ Rp K H c [u]
  | .nil, vs, ws, i, v, _, _, h, e, _ => by
    have h : vs = [] := h
    rw [h] at e
    cases i <;> cases e
  | .cons d r, vs, ws, 0, v, q, o, ⟨x, xs, e1, h1, h2⟩, e, ⟨y, ys, e2, k1, k2⟩ => by
    subst e1 e2
    simp only [D.ok, Bool.and_eq_true, Bool.not_eq_true'] at o
    have ev : x = v := by simpa using e
    rw [ev] at h1
    exact ⟨d, y, rfl, o.1.1.1, o.1.1.2, Nat.le_max_left _ _, h1, k1⟩
  | .cons d r, vs, ws, i + 1, v, q, o, ⟨x, xs, e1, h1, h2⟩, e, ⟨y, ys, e2, k1, k2⟩ => by
    subst e1 e2
    simp only [D.ok, Bool.and_eq_true, Bool.not_eq_true'] at o
    obtain ⟨c, u, g1, g2, g3, g4, g5, g6⟩ := Rp.at_ (d := r) (i := i) (v := v) q o.2 h2 (by simpa using e) k2
    exact ⟨c, u, by simpa using g1, g2, g3, Nat.le_trans g4 (Nat.le_max_right _ _), g5, g6⟩
end

/-! ### heaps that grow: B the part that stands, X what may be written -/
theorem Same.upd {H : Hp} {p : Addr} {o : HO} (h : H p = none) : Same H (upd H p o) := fun b u e => by
  rw [upd_ne (ne_of_none e h)]
  exact e
theorem Same.wr {B H : Hp} {p : Addr} {o : HO} (e : Same B H) (h : B p = none) : Same B (L2.upd H p o) := fun b u q => by
  rw [upd_ne (ne_of_none q h)]
  exact e b u q
structure Grow (X : List Addr) (B H N H' : Hp) : Prop where
  bn : Same B N
  nh : Same N H'
  keep : ∀ a o, a ∉ X → H a = some o → H' a = some o
  there : ∀ a o, H a = some o → ∃ o', H' a = some o'
  frs : ∀ a o, N a = some o → B a = some o ∨ H a = none
/-- every address of X holds a list of ints -/
def Ints (X : List Addr) (H : Hp) : Prop := ∀ p ∈ X, ∃ ns : List Int, H p = some (.lst (ns.map V.int))
def Off (X : List Addr) (B : Hp) : Prop := ∀ p ∈ X, B p = none
section
variable {X : List Addr} {B H N H' N' H'' : Hp}
theorem Grow.refl (e : Same B H) : Grow X B H B H := ⟨Same.refl B, e, fun _ _ _ h => h, fun _ o h => ⟨o, h⟩, fun _ _ h => .inl h⟩
theorem Grow.trans (g : Grow X B H N H') (k : Grow X N H' N' H'') : Grow X B H N' H'' :=
  ⟨g.bn.trans k.bn, k.nh, fun a o n h => k.keep a o n (g.keep a o n h), fun a o h => by
    obtain ⟨o', h'⟩ := g.there a o h
    exact k.there a o' h', fun a o h => by
    rcases k.frs a o h with q | q
    · exact g.frs a o q
    · right
      cases e : H a with
      | none => rfl
      | some u =>
        obtain ⟨o', h'⟩ := g.there a u e
        rw [q] at h'
        cases h'⟩
theorem Grow.more {Y : List Addr} (g : Grow X B H N H') (s : ∀ p ∈ X, p ∈ Y) : Grow Y B H N H' := ⟨g.bn, g.nh, fun a o n h => g.keep a o (fun m => n (s a m)) h, g.there, g.frs⟩
theorem Grow.same (g : Grow [] B H N H') : Same H H' := fun a o h => g.keep a o (by simp) h
/-- a new object, known from now on -/
theorem Grow.new {p : Addr} {o : HO} (e : Same B H) (h : H p = none) : Grow X B H (upd B p o) (upd H p o) := by
  have hb : B p = none := e.free h
  refine ⟨Same.upd hb, fun a u q => ?_, fun a u _ q => Same.upd h a u q, fun a u q => ⟨u, Same.upd h a u q⟩, fun a u q => ?_⟩
  · by_cases z : a = p
    · subst z
      rw [upd_same] at q ⊢
      exact q
    · rw [upd_ne z] at q ⊢
      exact e a u q
  · by_cases z : a = p
    · subst z
      exact .inr h
    · rw [upd_ne z] at q
      exact .inl q
/-- a new object, not known (it may be written later) -/
theorem Grow.new0 {p : Addr} {o : HO} (e : Same B H) (h : H p = none) : Grow X B H B (upd H p o) :=
  ⟨Same.refl B, Same.wr e (e.free h), fun a u _ q => Same.upd h a u q, fun a u q => ⟨u, Same.upd h a u q⟩, fun _ _ q => .inl q⟩
/-- an object of X is written -/
theorem Grow.wr {p : Addr} {o : HO} (e : Same B H) (m : p ∈ X) (h : B p = none) : Grow X B H B (upd H p o) :=
  ⟨Same.refl B, Same.wr e h, fun a u n q => by rw [upd_ne (fun z => n (by rw [z]; exact m))]; exact q, fun a u q => by
    by_cases z : a = p
    · subst z
      exact ⟨o, upd_same⟩
    · exact ⟨u, by rw [upd_ne z]; exact q⟩, fun _ _ q => .inl q⟩
/-- what was made since the start comes to be known -/
theorem Grow.know {B0 H0 : Hp} {p : Addr} {o : HO} (g : Grow X B0 H0 N H') (h0 : H0 p = none) (h : H' p = some o) : Grow X B0 H0 (upd N p o) H' := by
  refine ⟨fun a u q => ?_, fun a u q => ?_, g.keep, g.there, fun a u q => ?_⟩
  · by_cases z : a = p
    · subst z
      have w := g.nh a u (g.bn a u q)
      rw [h] at w
      cases w
      exact upd_same
    · rw [upd_ne z]
      exact g.bn a u q
  · by_cases z : a = p
    · subst z
      rw [upd_same] at q
      cases q
      exact h
    · rw [upd_ne z] at q
      exact g.nh a u q
  · by_cases z : a = p
    · subst z
      exact .inr h0
    · rw [upd_ne z] at q
      exact g.frs a u q
/-- an object that was made since the start, and is not known, is written -/
theorem Grow.wrNew {p : Addr} {o : HO} (g : Grow X B H N H') (h0 : H p = none) (hN : N p = none) : Grow X B H N (upd H' p o) :=
  ⟨g.bn, Same.wr g.nh hN, fun a u n q => by rw [upd_ne (ne_of_none q h0)]; exact g.keep a u n q, fun a u q => by
    rw [upd_ne (ne_of_none q h0)]
    exact g.there a u q, g.frs⟩
theorem Grow.off {Y : List Addr} (g : Grow X B H N H') (hB : Off Y B) (hH : ∀ p ∈ Y, ∃ o, H p = some o) : Off Y N := fun p m => by
  cases e : N p with
  | none => rfl
  | some o =>
    rcases g.frs p o e with q | q
    · rw [hB p m] at q
      cases q
    · obtain ⟨u, hu⟩ := hH p m
      rw [q] at hu
      cases hu
theorem Grow.offI (g : Grow X B H N H') (hB : Off X B) (hI : Ints X H) : Off X N := g.off hB fun p m => by
  obtain ⟨ns, h⟩ := hI p m
  exact ⟨_, h⟩
end

/-! ### evaluation: an expression whose reading is te gives, in the slots σ and over the base B, some tree of which φ holds -/
def EvP (K : PySem.W.Frag) (X : List Addr) (B : Hp) (te : TE) (σ : St) (φ : D → Prop) : Prop :=
  ∀ H1, Same B H1 → Off X B → Ints X H1 → ∀ Q : VK, (∀ v d N H2, Grow X B H1 N H2 → Ints X H2 → φ d → Rp K N d [v] → Q v H2) → te σ H1 Q
def EvPs (K : PySem.W.Frag) (X : List Addr) (B : Hp) (ta : TA) (σ : St) (φ : D → Prop) : Prop :=
  ∀ H1, Same B H1 → Off X B → Ints X H1 → ∀ Q : List V → Hp → Prop, (∀ vs d N H2, Grow X B H1 N H2 → Ints X H2 → φ d → Rp K N d vs → Q vs H2) → ta σ H1 Q
section
variable {K : PySem.W.Frag} {X : List Addr} {B N : Hp} {σ : St} {te tb : TE} {ta : TA} {φ ψ : D → Prop}
theorem EvP.imp (h : EvP K X B te σ φ) (k : ∀ d, φ d → ψ d) : EvP K X B te σ ψ := fun H1 e o j Q q => h H1 e o j Q fun v d N H2 g j2 p r => q v d N H2 g j2 (k d p) r
theorem EvPs.imp (h : EvPs K X B ta σ φ) (k : ∀ d, φ d → ψ d) : EvPs K X B ta σ ψ := fun H1 e o j Q q => h H1 e o j Q fun v d N H2 g j2 p r => q v d N H2 g j2 (k d p) r
theorem EvP.val {v : V} {d : D} (r : Rp K B d [v]) : EvP K X B (tC v) σ (· = d) := fun H1 e _ j Q q => q v d B H1 (Grow.refl e) j rfl r
theorem EvP.var {i : Nat} {v : V} {d : D} (h : σ[i]? = some (some v)) (r : Rp K B d [v]) : EvP K X B (tVar i) σ (· = d) := fun H1 e _ j Q q => ⟨v, h, q v d B H1 (Grow.refl e) j rfl r⟩
theorem EvPs.nil : EvPs K X B tNil σ (· = .nil) := fun H1 e _ j Q q => q [] .nil B H1 (Grow.refl e) j rfl rfl
/-- the base may have grown since -/
theorem EvP.grown (h : ∀ N, Same B N → EvP K X N te σ φ) {H1 H2 : Hp} (g : Grow X B H1 N H2) (o : Off X B) (j1 : Ints X H1) (j : Ints X H2) {Q : VK} (q : ∀ v d N' H3, Grow X B H1 N' H3 → Ints X H3 → φ d → Same N N' → Rp K N' d [v] → Q v H3) : te σ H2 Q :=
  h N g.bn H2 g.nh (g.offI o j1) j Q fun v d N' H3 g2 j2 p r => q v d N' H3 (g.trans g2) j2 p g2.bn r
theorem EvPs.cons (h : EvP K X B te σ φ) (k : ∀ N, Same B N → EvPs K X N ta σ ψ) : EvPs K X B (tCons te ta) σ (fun d => ∃ x r, d = .cons x r ∧ φ x ∧ ψ r) := fun H1 e o j Q q =>
  h H1 e o j _ fun v d N H2 g j2 p r => k N g.bn H2 g.nh (g.offI o j) j2 _ fun vs ds N' H3 g2 j3 p2 r2 =>
    q (v :: vs) (.cons d ds) N' H3 (g.trans g2) j3 ⟨d, ds, rfl, p, p2⟩ ⟨v, vs, rfl, Rp.mono g2.bn r, r2⟩
theorem EvP.tup (h : EvPs K X B ta σ φ) (hl : ∀ d, φ d → d.isRow = true ∧ d.len ≤ 100000) : EvP K X B (tTup ta) σ (fun d => ∃ ds, d = .tup ds ∧ φ ds) := fun H1 e o j Q q =>
  h H1 e o j _ fun vs d N H2 g j2 p r => by
    obtain ⟨h1, h2⟩ := hl d p
    have h3 : vs.length ≤ 100000 := by rw [Rp.row_len h1 r]; exact h2
    refine ⟨Nat.le_trans h3 (by decide), fun a ha => ?_⟩
    have g2 : Grow X N H2 (upd N a (.tup vs)) (upd H2 a (.tup vs)) := Grow.new g.nh ha
    refine q (.ref a) (.tup d) _ _ (g.trans g2) (fun y m => ?_) ⟨d, rfl, p⟩ ⟨a, vs, rfl, SqT.of upd_same, h3, Rp.mono g2.bn r⟩
    obtain ⟨ns, hy⟩ := j2 y m
    exact ⟨ns, Same.upd ha y _ hy⟩
theorem EvP.lst (h : EvPs K X B ta σ φ) (hl : ∀ d, φ d → d.isRow = true ∧ d.len ≤ 100000) : EvP K X B (tLst ta) σ (fun d => ∃ ds, d = .lst ds ∧ φ ds) := fun H1 e o j Q q =>
  h H1 e o j _ fun vs d N H2 g j2 p r => by
    obtain ⟨h1, h2⟩ := hl d p
    have h3 : vs.length ≤ 100000 := by rw [Rp.row_len h1 r]; exact h2
    refine ⟨Nat.le_trans h3 (by decide), fun a ha => ?_⟩
    have g2 : Grow X N H2 (upd N a (.lst vs)) (upd H2 a (.lst vs)) := Grow.new g.nh ha
    refine q (.ref a) (.lst d) _ _ (g.trans g2) (fun y m => ?_) ⟨d, rfl, p⟩ ⟨a, vs, rfl, SqL.of upd_same, h3, Rp.mono g2.bn r⟩
    obtain ⟨ns, hy⟩ := j2 y m
    exact ⟨ns, Same.upd ha y _ hy⟩
/-! the same where the tree is told -/
theorem ed_nil : EvPs K X B tNil σ (· = .nil) := EvPs.nil
theorem ed_cons {d r : D} (h : EvP K X B te σ (· = d)) (k : ∀ N, Same B N → EvPs K X N ta σ (· = r)) : EvPs K X B (tCons te ta) σ (· = .cons d r) :=
  (EvPs.cons h k).imp fun _ ⟨_, _, e, e1, e2⟩ => by rw [e, e1, e2]
theorem ed_tup {ds : D} (h : EvPs K X B ta σ (· = ds)) (h1 : ds.isRow = true := by rfl) (h2 : ds.len ≤ 100000 := by decide) : EvP K X B (tTup ta) σ (· = .tup ds) :=
  (EvP.tup h fun d e => by rw [e]; exact ⟨h1, h2⟩).imp fun _ ⟨_, e, e1⟩ => by rw [e, e1]
theorem ed_lst {ds : D} (h : EvPs K X B ta σ (· = ds)) (h1 : ds.isRow = true := by rfl) (h2 : ds.len ≤ 100000 := by decide) : EvP K X B (tLst ta) σ (· = .lst ds) :=
  (EvP.lst h fun d e => by rw [e]; exact ⟨h1, h2⟩).imp fun _ ⟨_, e, e1⟩ => by rw [e, e1]
theorem ed_int {i : Int} : EvP K X B (tC (.int i)) σ (· = .int i) := EvP.val rfl
theorem ed_str {x : Str} : EvP K X B (tC (.str x)) σ (· = .str x) := EvP.val rfl
theorem ed_non : EvP K X B (tC .non) σ (· = .non) := EvP.val rfl
theorem ed_bl {b : Bool} : EvP K X B (tC (.bl b)) σ (· = .bl b) := EvP.val rfl
theorem ed_var {i : Nat} {v : V} {d : D} (h : σ[i]? = some (some v)) (r : Rp K B d [v]) {N : Hp} (e : Same B N) : EvP K X N (tVar i) σ (· = d) := EvP.var h (Rp.mono e r)
theorem ed_add {i j : Int} (h : EvP K X B te σ (· = .int i)) (k : ∀ N, Same B N → EvP K X N tb σ (· = .int j)) : EvP K X B (tOp (rI0 fun i j => .int (i + j)) te tb) σ (· = .int (i + j)) := fun H1 e o jj Q q =>
  h H1 e o jj _ fun v d N H2 g j2 p r => k N g.bn H2 g.nh (g.offI o jj) j2 _ fun u d' N' H3 g2 j3 p2 r2 => by
    subst p p2
    have e1 : v = .int i := by simpa [Rp] using r
    have e2 : u = .int j := by simpa [Rp] using r2
    exact ⟨i, j, e1, e2, q _ _ N' H3 (g.trans g2) j3 rfl rfl⟩
theorem ed_sub {i j : Int} (h : EvP K X B te σ (· = .int i)) (k : ∀ N, Same B N → EvP K X N tb σ (· = .int j)) : EvP K X B (tOp (rI0 fun i j => .int (i - j)) te tb) σ (· = .int (i - j)) := fun H1 e o jj Q q =>
  h H1 e o jj _ fun v d N H2 g j2 p r => k N g.bn H2 g.nh (g.offI o jj) j2 _ fun u d' N' H3 g2 j3 p2 r2 => by
    subst p p2
    have e1 : v = .int i := by simpa [Rp] using r
    have e2 : u = .int j := by simpa [Rp] using r2
    exact ⟨i, j, e1, e2, q _ _ N' H3 (g.trans g2) j3 rfl rfl⟩
end

/-! ### promises: a def that makes of trees a tree; one that pops from a list of ints besides -/
def SpD (K : PySem.W.Frag) (n : Nat) (pre : D → Prop) (post : D → D → Prop) : Sp := fun vs H Q _ => ∃ B ds, vs.length = n ∧ Same B H ∧ Rp K B ds vs ∧ pre ds ∧
  ∀ v d N H', Grow [] B H N H' → post ds d → Rp K N d [v] → Q v H'
def SpX (K : PySem.W.Frag) (n : Nat) (pre : D → Prop) (post : D → D → Prop) : Sp := fun vs H Q _ => ∃ B p us ds, vs = .ref p :: us ∧ us.length = n ∧ Same B H ∧ Off [p] B ∧ Ints [p] H ∧ Rp K B ds us ∧ pre ds ∧
  ∀ v d N H', Grow [p] B H N H' → Ints [p] H' → post ds d → Rp K N d [v] → Q v H'
section
variable {K : PySem.W.Frag} {X : List Addr} {B : Hp} {σ : St} {ta : TA} {φ : D → Prop} {pre : D → Prop} {post : D → D → Prop} {E : XK} {n : Nat}
theorem EvP.call (h : EvPs K X B ta σ φ) (hp : ∀ d, φ d → pre d ∧ d.isRow = true ∧ d.len = n) : EvP K X B (tCall (SpD K n pre post) [] E ta) σ (fun d => ∃ ds, φ ds ∧ post ds d) := fun H1 e o j Q q =>
  h H1 e o j _ fun vs ds N H2 g j2 p r => by
    obtain ⟨h1, h2, h3⟩ := hp ds p
    show SpD K n pre post (vs ++ []) H2 Q E
    rw [List.append_nil]
    refine ⟨N, ds, (Rp.row_len h2 r).trans h3, g.nh, r, h1, fun v d N' H' g2 p2 r2 => q v d N' H' (g.trans (g2.more (by simp))) (fun y m => ?_) ⟨ds, p, p2⟩ r2⟩
    obtain ⟨ns, hy⟩ := j2 y m
    exact ⟨ns, g2.same y _ hy⟩
theorem EvP.callX {p : Addr} {i : Nat} (hi : σ[i]? = some (some (.ref p))) (h : EvPs K [p] B ta σ φ) (hp : ∀ d, φ d → pre d ∧ d.isRow = true ∧ d.len = n) : EvP K [p] B (tCall (SpX K n pre post) [] E (tCons (tVar i) ta)) σ (fun d => ∃ ds, φ ds ∧ post ds d) := fun H1 e o j Q q =>
  ⟨.ref p, hi, h H1 e o j _ fun vs ds N H2 g j2 p1 r => by
    obtain ⟨h1, h2, h3⟩ := hp ds p1
    show SpX K n pre post ((.ref p :: vs) ++ []) H2 Q E
    rw [List.append_nil]
    exact ⟨N, p, vs, ds, rfl, (Rp.row_len h2 r).trans h3, g.nh, g.offI o j, j2, r, h1, fun v d N' H' g2 j3 p2 r2 => q v d N' H' (g.trans g2) j3 ⟨ds, p1, p2⟩ r2⟩⟩
end
end YF

/-! told trees: what an expression gives, over every base that has grown from B -/
namespace YF
open PySem PySem.Spec PyProof.Rows L2

def Ed (K : PySem.W.Frag) (X : List Addr) (B : Hp) (te : TE) (σ : St) (d : D) : Prop := ∀ N, Same B N → EvP K X N te σ (· = d)
def Eds (K : PySem.W.Frag) (X : List Addr) (B : Hp) (ta : TA) (σ : St) (d : D) : Prop := ∀ N, Same B N → EvPs K X N ta σ (· = d)
/-- what is known of values: their trees -/
def Env (K : PySem.W.Frag) (B : Hp) (l : List (V × D)) : Prop := ∀ p ∈ l, Rp K B p.2 [p.1]
section
variable {K : PySem.W.Frag} {X : List Addr} {B N H H2 : Hp} {σ : St} {te tb tl : TE} {ta : TA} {l : List (V × D)} {v : V} {d : D}
theorem Env.nil : Env K B [] := fun _ h => by cases h
theorem Env.add (e : Env K B l) (r : Rp K B d [v]) : Env K B ((v, d) :: l) := fun p h => by
  rcases List.mem_cons.mp h with h | h
  · rw [h]
    exact r
  · exact e p h
theorem Env.mono (e : Env K B l) (s : Same B N) : Env K N l := fun p h => Rp.mono s (e p h)
theorem Env.at_ (e : Env K B l) (i : Nat) (h : l[i]? = some (v, d)) : Rp K B d [v] := e _ (List.mem_of_getElem? h)
/-- a value's tree, at the i-th place -/
theorem ev_at (j : Nat) (e : Env K B l) {i : Nat} (hs : σ[i]? = some (some v)) (h : l[j]? = some (v, d)) : Ed K X B (tVar i) σ d := fun N s => EvP.var hs (Rp.mono s (e.at_ j h))
theorem ev_var {i : Nat} (hs : σ[i]? = some (some v)) (r : Rp K B d [v]) : Ed K X B (tVar i) σ d := fun N s => EvP.var hs (Rp.mono s r)
theorem ev_val (r : Rp K B d [v]) : Ed K X B (tC v) σ d := fun N s => EvP.val (Rp.mono s r)
theorem ev_int {i : Int} : Ed K X B (tC (.int i)) σ (.int i) := fun N s => ed_int
theorem ev_str {x : Str} : Ed K X B (tC (.str x)) σ (.str x) := fun N s => ed_str
theorem ev_non : Ed K X B (tC .non) σ .non := fun N s => ed_non
theorem ev_bl {b : Bool} : Ed K X B (tC (.bl b)) σ (.bl b) := fun N s => ed_bl
theorem ev_nil : Eds K X B tNil σ .nil := fun N s => EvPs.nil
theorem ev_cons {d r : D} (h : Ed K X B te σ d) (k : Eds K X B ta σ r) : Eds K X B (tCons te ta) σ (.cons d r) := fun N s => ed_cons (h N s) fun N' s' => k N' (s.trans s')
theorem ev_tup {ds : D} (h : Eds K X B ta σ ds) (h1 : ds.isRow = true := by rfl) (h2 : ds.len ≤ 100000 := by first | decide | simp [D.len]) : Ed K X B (tTup ta) σ (.tup ds) := fun N s => ed_tup (h N s) h1 h2
theorem ev_lst {ds : D} (h : Eds K X B ta σ ds) (h1 : ds.isRow = true := by rfl) (h2 : ds.len ≤ 100000 := by first | decide | simp [D.len]) : Ed K X B (tLst ta) σ (.lst ds) := fun N s => ed_lst (h N s) h1 h2
theorem ev_add {i j : Int} (h : Ed K X B te σ (.int i)) (k : Ed K X B tb σ (.int j)) : Ed K X B (tOp (rI0 fun i j => .int (i + j)) te tb) σ (.int (i + j)) := fun N s => ed_add (h N s) fun N' s' => k N' (s.trans s')
theorem ev_sub {i j : Int} (h : Ed K X B te σ (.int i)) (k : Ed K X B tb σ (.int j)) : Ed K X B (tOp (rI0 fun i j => .int (i - j)) te tb) σ (.int (i - j)) := fun N s => ed_sub (h N s) fun N' s' => k N' (s.trans s')
/-- an item of a tuple that stands -/
theorem ev_ixT {a : Addr} {xs : List V} {ds : D} {i : Int} {c : D} {u : V} (hv : Ed K X B te σ (.tup ds)) (hi : Ed K X B tb σ (.int i)) (h : ∀ N xs, Rp K N ds xs → ∃ u, atI xs i = some u ∧ Rp K N c [u]) : Ed K X B (tOp (rIxT K) te tb) σ c := fun N s H1 e o j Q q =>
  hv N s H1 e o j _ fun v d N2 H2 g j2 p r => hi N2 (s.trans g.bn) H2 g.nh (g.offI o j) j2 _ fun w d' N3 H3 g3 j3 p3 r3 => by
    subst p p3
    obtain ⟨a, xs, e1, r1, _, r2⟩ := r
    have e2 : w = .int i := by simpa [Rp] using r3
    obtain ⟨u, h1, h2⟩ := h N3 xs (Rp.mono g3.bn r2)
    exact ⟨a, xs, i, u, (List.cons.inj e1).1, e2, Same.sqT (g3.bn.trans g3.nh) r1, h1, q u c N3 H3 (g.trans g3) j3 rfl h2⟩
theorem ev_ixL {ds : D} {i : Int} {c : D} (hv : Ed K X B te σ (.lst ds)) (hi : Ed K X B tb σ (.int i)) (h : ∀ N xs, Rp K N ds xs → ∃ u, atI xs i = some u ∧ Rp K N c [u]) : Ed K X B (tOp (rIxL K) te tb) σ c := fun N s H1 e o j Q q =>
  hv N s H1 e o j _ fun v d N2 H2 g j2 p r => hi N2 (s.trans g.bn) H2 g.nh (g.offI o j) j2 _ fun w d' N3 H3 g3 j3 p3 r3 => by
    subst p p3
    obtain ⟨a, xs, e1, r1, _, r2⟩ := r
    have e2 : w = .int i := by simpa [Rp] using r3
    obtain ⟨u, h1, h2⟩ := h N3 xs (Rp.mono g3.bn r2)
    exact ⟨a, xs, i, u, (List.cons.inj e1).1, e2, Same.sqL (g3.bn.trans g3.nh) r1, h1, q u c N3 H3 (g.trans g3) j3 rfl h2⟩
/-- a def that makes of trees the tree that f says -/
def SpG (K : PySem.W.Frag) (n : Nat) (pre : D → Prop) (f : D → D) : Sp := SpD K n (fun ds => ds.isRow = true ∧ ds.len = n ∧ pre ds) (fun ds d => d = f ds)
theorem ev_call {ds d : D} {pre : D → Prop} {f : D → D} {E : XK} {n : Nat} (h : Eds K X B ta σ ds) (hp : pre ds) (h1 : ds.isRow = true := by rfl) (h2 : ds.len = n := by rfl) (h3 : f ds = d := by rfl) : Ed K X B (tCall (SpG K n pre f) [] E ta) σ d := fun N s =>
  (EvP.call (h N s) fun d e => by subst e; exact ⟨⟨h1, h2, hp⟩, h1, h2⟩).imp fun _ ⟨_, e, e1⟩ => by rw [e1, e, h3]
theorem ev_tupX {ds : D} (h : Eds K X B ta σ ds) (h1 : ds.isRow = true) (h2 : ds.len ≤ 100000) : Ed K X B (tTup ta) σ (.tup ds) := ev_tup h h1 h2
theorem ev_lstX {ds : D} (h : Eds K X B ta σ ds) (h1 : ds.isRow = true) (h2 : ds.len ≤ 100000) : Ed K X B (tLst ta) σ (.lst ds) := ev_lst h h1 h2
theorem ev_callX {ds d : D} {pre : D → Prop} {f : D → D} {E : XK} {n : Nat} (h : Eds K X B ta σ ds) (hp : pre ds) (h1 : ds.isRow = true) (h2 : ds.len = n) (h3 : f ds = d) : Ed K X B (tCall (SpG K n pre f) [] E ta) σ d := ev_call h hp h1 h2 h3

/-! statements -/
theorem Ed.go {Q : VK} (h : Ed K X B te σ d) (s : Same B H) (o : Off X B) (j : Ints X H) (k : ∀ v N H2, Grow X B H N H2 → Ints X H2 → Rp K N d [v] → Q v H2) : te σ H Q :=
  h B (Same.refl B) H s o j Q fun v d' N H2 g j2 p r => by subst p; exact k v N H2 g j2 r
variable {E : Ends} {rest : TS} {i : Nat}
theorem go_ret (h : Ed K X B te σ d) (s : Same B H) (o : Off X B) (j : Ints X H) (k : ∀ v N H2, Grow X B H N H2 → Ints X H2 → Rp K N d [v] → E.rt v H2) : tRet te E σ H := h.go s o j k
theorem go_asg (h : Ed K X B te σ d) (s : Same B H) (o : Off X B) (j : Ints X H) (e : Env K B l) (k : ∀ v N H2, Grow X B H N H2 → Ints X H2 → Env K N ((v, d) :: l) → rest E (σ.set i (some v)) H2) : tSeq (tAsg te (gName i)) rest E σ H :=
  h.go s o j fun v N H2 g j2 r => k v N H2 g j2 ((e.mono g.bn).add r)
theorem go_next (h : E.nx σ H) : tNext E σ H := h
theorem no_ints : Ints [] H := fun _ h => by cases h
theorem no_off : Off [] B := fun _ h => by cases h
/-- a def's arguments: a row of one, two, three trees -/
theorem row1 {ds : D} {vs : List V} (h : ds.isRow = true ∧ ds.len = 1) (r : Rp K B ds vs) : ∃ a v, ds = .cons a .nil ∧ vs = [v] ∧ Env K B [(v, a)] := by
  obtain ⟨h1, h2⟩ := h
  match ds, h1, h2, r with
  | .cons a .nil, _, _, ⟨v, us, e, r1, r2⟩ =>
    have e2 : us = [] := r2
    subst e e2
    exact ⟨a, v, rfl, rfl, Env.nil.add r1⟩
theorem row2 {ds : D} {vs : List V} (h : ds.isRow = true ∧ ds.len = 2) (r : Rp K B ds vs) : ∃ a b v w, ds = .cons a (.cons b .nil) ∧ vs = [v, w] ∧ Env K B [(v, a), (w, b)] := by
  obtain ⟨h1, h2⟩ := h
  match ds, h1, h2, r with
  | .cons a (.cons b .nil), _, _, ⟨v, us, e, r1, w, us', e', r1', r2⟩ =>
    have e2 : us' = [] := r2
    subst e e' e2
    exact ⟨a, b, v, w, rfl, rfl, (Env.nil.add r1').add r1⟩
theorem row3 {ds : D} {vs : List V} (h : ds.isRow = true ∧ ds.len = 3) (r : Rp K B ds vs) : ∃ a b c v w x, ds = .cons a (.cons b (.cons c .nil)) ∧ vs = [v, w, x] ∧ Env K B [(v, a), (w, b), (x, c)] := by
  obtain ⟨h1, h2⟩ := h
  match ds, h1, h2, r with
  | .cons a (.cons b (.cons c .nil)), _, _, ⟨v, us, e, r1, w, us', e', r1', x, us2, e3, r3, r2⟩ =>
    have e2 : us2 = [] := r2
    subst e e' e3 e2
    exact ⟨a, b, c, v, w, x, rfl, rfl, ((Env.nil.add r3).add r1').add r1⟩
/-- what a def's end asks -/
theorem SpD.len {n : Nat} {pre : D → Prop} {post : D → D → Prop} {vs : List V} {Q : VK} {E : XK} (h : SpD K n pre post vs H Q E) : vs.length = n := by
  obtain ⟨_, _, e, _⟩ := h
  exact e
end
end YF

namespace YF
open PySem PySem.Spec PyProof.Rows L2
section
variable {X : Cx} {C : Addr} {bmB : List Value} {B newId initId : String}
/-- X(), an own exception class without __init__, made of nothing -/
theorem pmk_none {x : Str} {p pos : Pos} (F : ExcBaseFacts B newId initId bmB) (q : PySem.W.excIn X.K C bmB newId = true) (gC : X.mg x = some (.ref C)) (kC : PySem.W.keepIn X.K (.ref C) = true) (r : Raises X (.ref C)) (hg : Gl X x)
    (hdb : (x == ("__debug__" : Str)) = false := by decide) : PMk X (.Call (.Name x p) [] [] pos) (fun _ H Q => Q (.ref C) none H) := fun pins s σ H Q I h => by
  refine wpAny_Call_Name_kw (ld_glob I hg gC (PySem.W.callWith_K0 I.kIn kC ?_) hdb)
  obtain ⟨bm, N, nm, qn, bs, hdct, sn, sub, ab, col, dd, k0, k1, k2, k3, k5, mN, h1, h2, h3, h4⟩ := exc_obj I.kIn q
  exact wpAny_call_exc_subT F h4 h1 h2 h3 (fun h' e hm => mk_of I hm r h (I.hok.gone hm.new)) (Nat.zero_le _)
end
/-- a call of what stands at a place of a list: the def is told by its address -/
def tCallE (te : TE) (S : Addr → Sp → Prop) (E : St → XK) (t : TA) : TE := fun σ H Q => te σ H fun v H1 => ∃ f sp, v = .ref f ∧ S f sp ∧ t σ H1 fun vs H2 => sp vs H2 Q (E σ)
theorem call_sub (e i : Expr) (p2 : Pos) (args : List Expr) (pos : Pos) (env : PySem.Env) : eval (.Call (.Subscript e i p2) args [] pos) env = (do
    callWith pos (← eval (.Subscript e i p2) env) [] (backTo pos (starEach args env)) (backToKw pos (keywordEach [] env))) := rfl
theorem pe_callE {X : Cx} {e0 i0 : Expr} {p2 pos : Pos} {te : TE} {S : Addr → Sp → Prop} {E : St → XK} {e : Expr} {es : List Expr} {t : TA} {CX : CXT} {k : Nat} (he : PE X (.Subscript e0 i0 p2) te)
    (hS : ∀ f sp, S f sp → ∃ (fd : FuncData) (ps : List Str), FnOk X.prog X.w X.K X.mg X.base CX k f fd ps sp ∧ PySem.W.keepIn X.K (.ref f) = true ∧ Binds X.K fd ps []) (hr : Room k X.A) (hx : ∀ σ, PassesAt CX X σ (E σ)) (ha : PA X (e :: es) t)
    (hst : starEach (e :: es) X.env = (false, eval e X.env) :: starEach es X.env := by rfl) (hpl : (backTo pos (starEach es X.env)).any (·.1) = false := by rfl) : PE X (.Call (.Subscript e0 i0 p2) (e :: es) [] pos) (tCallE te S E t) := by
  refine ⟨fun pins s σ H Q I h => ?_⟩
  rw [call_sub]
  refine wpAny_bind (thn (he.run pins s σ H _ I h) fun u s1 ⟨v, H1, I1, r1, f, sp, ev, hs, q⟩ => ?_)
  subst ev
  cases r1
  obtain ⟨fd, ps, F, hk, hb⟩ := hS f sp hs
  refine PySem.W.callWith_K (h₀ := X.base) I1.ok.mod.kin hk (thn (ha.run pos pins s1 σ H1 _ I1 q) fun us s2 ⟨vs, H2, I2, r2, q2⟩ => ⟨I2.kIn, ?_⟩) hst hpl
  exact run_fnS F hr hb (hx σ) I2 r2 q2
end YF

/-! readings that leave the heap as it is: Te gives a value, Tt a truth value -/
namespace YF
open PySem PySem.Spec PyProof.Rows L2
def Te (te : TE) (σ : St) (H : Hp) (v : V) : Prop := ∀ Q : VK, Q v H → te σ H Q
def Tt (t : TT) (σ : St) (H : Hp) (b : Bool) : Prop := ∀ Q : Bool → Hp → Prop, Q b H → t σ H Q
section
variable {K : PySem.W.Frag} {σ : St} {H : Hp} {ta tb te : TE} {t u : TT} {x y z v : V} {a b : Bool} {i j : Int}
theorem te_var {i : Nat} (h : σ[i]? = some (some v)) : Te (tVar i) σ H v := fun Q q => ⟨v, h, q⟩
theorem te_c : Te (tC v) σ H v := fun Q q => q
theorem te_i0 {g : Int → Int → V} (ha : Te ta σ H (.int i)) (hb : Te tb σ H (.int j)) : Te (tOp (rI0 g) ta tb) σ H (g i j) := fun Q q => ha _ (hb _ ⟨i, j, rfl, rfl, q⟩)
theorem te_i {C : Int → Int → Prop} {g : Int → Int → V} (ha : Te ta σ H (.int i)) (hb : Te tb σ H (.int j)) (hc : C i j) : Te (tOp (rI C g) ta tb) σ H (g i j) := fun Q q => ha _ (hb _ ⟨i, j, rfl, rfl, hc, q⟩)
theorem te_eq (ha : Te ta σ H x) (hb : Te tb σ H y) (hs : scal x y = true) : Te (tOp rEq ta tb) σ H (.bl (decide (x = y))) := fun Q q => ha _ (hb _ ⟨hs, q⟩)
theorem te_ne (ha : Te ta σ H x) (hb : Te tb σ H y) (hs : scal x y = true) : Te (tOp rNe ta tb) σ H (.bl (!decide (x = y))) := fun Q q => ha _ (hb _ ⟨hs, q⟩)
theorem te_len {p : Addr} {xs : List V} (ha : Te te σ H (.ref p)) (h : SqL K H p xs ∨ SqT K H p xs) : Te (tCB (fun vs H Q => ∃ p ys, vs = [.ref p] ∧ (SqL K H p ys ∨ SqT K H p ys) ∧ Q (.int ys.length) H) (tCons te tNil)) σ H (.int (xs.length : Int)) := fun Q q => ha _ ⟨p, xs, rfl, h, q⟩
theorem te_lens {w : Str} (ha : Te te σ H (.str w)) (h : w.length ≤ sizeLine) : Te (tCB (fun xs H Q => ∃ z, xs = [V.str z] ∧ z.length ≤ sizeLine ∧ Q (.int z.length) H) (tCons te tNil)) σ H (.int (w.length : Int)) := fun Q q => ha _ ⟨w, rfl, h, q⟩
theorem tt_test (h : Te te σ H (.bl b)) : Tt (tTest te) σ H b := fun Q q => h _ ⟨b, rfl, q⟩
theorem tt_b (h : Te te σ H (.bl b)) : Tt (tB te) σ H b := fun Q q => h _ ⟨b, rfl, q⟩
theorem tt_and (h1 : Tt t σ H a) (h2 : a = true → Tt u σ H b) : Tt (tAnd t u) σ H (a && b) := fun Q q => h1 _ (by
  cases a with
  | true => exact h2 rfl Q q
  | false => exact q)
theorem tt_or (h1 : Tt t σ H a) (h2 : a = false → Tt u σ H b) : Tt (tOr t u) σ H (a || b) := fun Q q => h1 _ (by
  cases a with
  | true => exact q
  | false => exact h2 rfl Q q)
theorem tt_not (h : Tt t σ H a) : Tt (tNot t) σ H (!a) := fun Q q => h _ q
variable {D : Ends} {tu tw rest : TS}
theorem if_go (h : Tt t σ H b) (h1 : b = true → tu D σ H) (h2 : b = false → tw D σ H) : tIfS t tu tw D σ H := h _ (by
  cases b with
  | true => exact h1 rfl
  | false => exact h2 rfl)
/-- if t: (leaves); then the rest -/
theorem if_seq (h : Tt t σ H b) (h1 : b = true → tu { D with nx := rest D } σ H) (h2 : b = false → rest D σ H) : tSeq (tIfS t tu tNext) rest D σ H := if_go h h1 h2
theorem ret_te (h : Te te σ H v) (k : D.rt v H) : tRet te D σ H := h _ k
theorem asg_te {i : Nat} (h : Te te σ H v) (k : rest D (σ.set i (some v)) H) : tSeq (tAsg te (gName i)) rest D σ H := h _ k
end
end YF

/-! an exception with an own __init__ is made where none is handled: it has no context -/
namespace YF
open PySem PySem.Spec PyProof.Rows L2
theorem pmkN_oex {X : Cx} {e : Expr} {es : List Expr} {ta : TA} {p pos : Pos} {CX : CXT} {x : Str} {C fI : Addr} {k : Nat} {fd : FuncData} {ps : List Str} {sp : Sp} (T : OexC X.K C) (iC : PySem.W.findIn X.K (.ref C) "__init__" = some (some (.ref fI))) (tI : PySem.W.typeIn X.K (.ref fI) = some (.type "function"))
    (F1 : FnOk X.prog X.w X.K X.mg X.base CX k fI fd ps sp) (hr : Room (k + 1) X.A) (hb : Binds X.K fd ps []) (hx : Passes CX X (fun _ _ _ => False)) (hg : Gl X x) (hm : X.mg x = some (.ref C)) (ha : PA X (e :: es) ta)
    (hdb : (x == ("__debug__" : Str)) = false := by decide) (he : starEach (e :: es) X.env = (false, eval e X.env) :: starEach es X.env := by rfl) (hpl : (backTo pos (starEach es X.env)).any (·.1) = false := by rfl) : L2N.PMk X (.Call (.Name x p) (e :: es) [] pos) (tMkO C sp [] ta) := by
  intro pins s σ H Q I h
  obtain ⟨nm, q, N, bs, bm, sn, sub, ab, col, dd, k0, k1, k2, k3, k5, hC, hbm⟩ := T.cls
  refine wpAny_Call_Name_kw (ld_glob I hg hm (PySem.W.callWith_K (h₀ := X.base) I.ok.mod.kin T.kC (thn (ha.run pos pins s σ H _ I h) fun us s1 hh => ?_) he hpl) hdb)
  obtain ⟨vs, H1, I1, r1, hz, q1⟩ := hh
  refine ⟨I1.kIn, ?_⟩
  obtain ⟨hp, g, dr, tk, os⟩ := s1
  show wpAny _ _ (call (.ref C) us) _ _ _
  have hsz : hp.objs.size ≤ hp.objs.size + 1 := Nat.le_succ _
  have hn : H1 (hp.objs.size + 1) = none := I1.hok.fresh hsz
  have hq := q1 (hp.objs.size + 1) hn
  have kk : ∀ b o, hp.get? b = some o → ((hp.push (PySem.W.kdv_tup us)).push (HandSPX.excO C hp.objs.size)).get? b = some o := fun b o e => Heap.get?_push_of_some _ (Heap.get?_push_of_some _ e)
  have hget : ((hp.push (PySem.W.kdv_tup us)).push (HandSPX.excO C hp.objs.size)).get? (hp.objs.size + 1) = some (HandSPX.excO C hp.objs.size) := by heap_get
  have I2 := I1.laid (t' := tk) kk hsz (exo_ok hget)
  have r2 : Vals (V.ref (hp.objs.size + 1) :: (vs ++ [])) (Value.ref (hp.objs.size + 1) :: (us ++ [])) := Paired.cons rfl (Vals.append r1 Paired.nil)
  have hl : (Value.ref (hp.objs.size + 1) :: (us ++ [])).length = ps.length := by
    rw [← Vals.length r2]
    exact F1.len _ _ _ _ hq
  have hus : us.length ≤ sizeLine := by
    rw [← Vals.length r1, sizeLine_eq]
    omega
  refine wpAny_call (HandSPX.call_own F.excBase_ValueError (fun Y => HandSPX.refsVE_contains Y bm hbm) (I1.kIn C _ hC) (PySem.W.looks_findIn I1.kIn iC) (fun self => PySem.W.bind_fn I1.kIn self tI) hus
    (codeAny_mono (F1.run _ X.stack _ _ _ _ _ _ _ (hr.make C us []) (I2.env0.make C us []) (hb _ _ I2.kIn hl) r2 hq) fun r s' hq' => ?_))
  cases r with
  | error er => exact hx pins σ _ _ er s' I2 hq'
  | ok fl =>
    cases fl with
    | ret u =>
      obtain ⟨v, H2, os2, bare2, un2, hok2, rv, ev, d, fs, ea, ed, hd1, q2⟩ := hq'
      subst ev
      obtain ⟨h2, g2, d2, t2, os'⟩ := s'
      refine ⟨rv, ?_⟩
      obtain ⟨a, oe, vs', sI, H', cls, dd', e1, J, k1', n1, o1, z1, f1, f2, n2, s2, b2, rr, qq⟩ := mk_end (d2 := d2) (t2 := t2) (raises_own T.exC T.tyC) I1 hsz kk un2 hok2 os2 bare2 ea ed hd1 q2
      cases e1
      refine ⟨_, oe, vs', sI, H', cls, dd', rfl, J, k1', n1, o1, ⟨z1.1, z1.2, fun ws hw => ?_⟩, f1, f2, n2, s2, b2, rr, qq⟩
      obtain ⟨t1, ht⟩ : ∃ t1, h2.get? (hp.objs.size + 1) = some { cls := .ref C, dict := some d, data := .fields #[.ref t1, .none, .none, .none, .bool false, .none] } := (hok2 _ _ ea).1
      have o2 : oe = _ := Option.some.inj (o1.symm.trans ht)
      rw [o2] at hw
      cases hw
      rfl
    | _ => exact hq'.elim
/-- a def that may raise without a context -/
theorem okN {P : Program} {w : World} {K : PySem.W.Frag} {mg : Str → Option Value} {base : Heap} {x qual : Str} {st : Stmt} {f : Addr} {fd : FuncData} {N ps : List Str} {k : Nat} {sp : Sp} (F : Fun K x qual st f fd) (S : FnScope N ps (defScope st)) (len : ∀ (vs : List V) (H : Hp) (Q : VK) (E : XK), sp vs H Q E → vs.length = ps.length)
    (hb : ∀ (cdv : Value) (A : Around) (outer : List PySem.Env) (s : Shared) (H : Hp) (vs : List V) (Q : VK) (E : XK), Room k (A.deeper (PyProof.Rows.envOfC qual (defScope st) s.heap.objs.size f cdv)) → sp vs H Q E →
      ∃ t, PSs (cxOf (L2N.CX P w) P w K mg base N qual (defScope st) f cdv A outer s H E) (defBody st) t ∧ t { nx := fun _ H' => Q V.non H', rt := Q } (L2.start N vs) H) : FnOk P w K mg base (L2N.CX P w) (k + 1) f fd ps sp := by
  obtain ⟨oc, od, kV, doc, pm, an, cdv, ct, osl, rfl, lk, hcd⟩ := F.ex
  exact L2.fn_of lk hcd S len fun A outer s H vs Q E hr h => hb cdv A outer s H vs Q E hr h
theorem passLN {X : Cx} : Passes (L2N.CX X.prog X.w) X E0 := fun pins σ H s e s' I h => by
  obtain ⟨a, B, H', cls, d, _, _, _, _, _, _, _, h⟩ := h
  exact h.elim
theorem takes0N {X : Cx} : L2N.Takes X (fun _ _ _ _ => False) := fun u s' h => by
  obtain ⟨a, B, sI, pins, σ, H', cls, d, _, _, _, _, _, _, _, _, h⟩ := h
  exact (by first | exact h.elim | exact h.2.elim | exact h.2.2.elim)
end YF

/-! the end by facts that a Hook reads: what my texts ask of it besides -/
namespace YF
open PySem PySem.Spec PyProof.Rows L2
/-- an own exception class with an own __init__ over ValueError -/
def oexB (K : PySem.W.Frag) (C : Addr) : Bool := (match K.lookup C with
  | some ⟨.type "type", _, .cls cd, sl⟩ => (match cd.mro, sl.toList with
    | .ref C' :: bm, [_, _, _, _, some (.builtin n), _] => decide (C' = C) && (decide (n = "ValueError.__new__") && (!cd.hasDel && (cd.hasDict && HandSPX.refsVE bm)))
    | _, _ => false)
  | _ => false) && (decide (PySem.W.findIn K (.ref C) "__setattr__" = some (some (.builtin "object.__setattr__"))) && (decide (PySem.W.subIn K (.ref C) (.type "BaseException") = some true) &&
    (decide (PySem.W.typeIn K (.ref C) = some (.type "type")) && PySem.W.keepIn K (.ref C))))
theorem oexB_ok {K : PySem.W.Frag} {C : Addr} (h : oexB K C = true) : OexC K C := by
  unfold oexB at h
  obtain ⟨h1, h⟩ := Bool.and_eq_true_iff.mp h
  obtain ⟨h2, h⟩ := Bool.and_eq_true_iff.mp h
  obtain ⟨h3, h⟩ := Bool.and_eq_true_iff.mp h
  obtain ⟨h4, h5⟩ := Bool.and_eq_true_iff.mp h
  refine ⟨?_, of_decide_eq_true h2, of_decide_eq_true h3, of_decide_eq_true h4, h5⟩
  split at h1
  · rename_i dd cd sl ho
    split at h1
    · rename_i C' bm k0 k1 k2 k3 n k5 hm hs
      obtain ⟨g1, h1⟩ := Bool.and_eq_true_iff.mp h1
      obtain ⟨g2, h1⟩ := Bool.and_eq_true_iff.mp h1
      obtain ⟨g3, h1⟩ := Bool.and_eq_true_iff.mp h1
      obtain ⟨g4, g5⟩ := Bool.and_eq_true_iff.mp h1
      have e1 := of_decide_eq_true g1
      have e2 := of_decide_eq_true g2
      subst e1 e2
      obtain ⟨nm, bs, mro, ns, qn, hd, sn, sub, ab, col, del⟩ := cd
      dsimp only at hm g3 g4
      have g3' : del = false := by
        cases del with
        | false => rfl
        | true => cases g3
      subst hm g3' g4
      have hsl : sl = #[k0, k1, k2, k3, some (.builtin "ValueError.__new__"), k5] := by
        obtain ⟨l⟩ := sl
        simp only at hs
        rw [hs]
      subst hsl
      exact ⟨nm, qn, ns, bs, bm, sn, sub, ab, col, dd, k0, k1, k2, k3, k5, ho, g5⟩
    · cases h1
  · cases h1
/-- a def without defaults, told by the Hook, as my texts name it -/
theorem fun_of {K : PySem.W.Frag} {x q : Str} {st : Stmt} {f : Addr} {fd : FuncData} (F : FunD K x q (defArgs st) (defBody st) (defScope st) [] [] f fd) : Fun K x q st f fd := by
  obtain ⟨⟨oc, od, dV, kV, doc, pm, an, cdv, ct, osl, e, lk, hc, hd, hk⟩, kp⟩ := F
  have e1 : dV = .none := by
    rcases hd with ⟨_, h⟩ | ⟨h, _⟩
    · exact h
    · exact absurd rfl h
  subst e1 e
  exact fun_mk lk hc kp
def fnB (K : PySem.W.Frag) (C : Addr) (m : Str) (f : Addr) : Bool := decide (PySem.W.findIn K (.ref C) m = some (some (.ref f))) && decide (PySem.W.typeIn K (.ref f) = some (.type "function"))
def noB (K : PySem.W.Frag) (C : Addr) (m : Str) : Bool := decide (PySem.W.findIn K (.ref C) m = some none)
end YF

/-! methods and makings that may raise within a try: what is wanted of the raised thing may hang on the slots -/
namespace YF
open PySem PySem.Spec PyProof.Rows L2
def tMethE (m : Str) (sp : Sp) (E : St → XK) (to : TE) (t : TA) : TE := fun σ H Q => to σ H fun x H1 => ∃ a C dx fs, x = .ref a ∧ H1 a = some (.ins C dx fs) ∧ fs.lookup m = none ∧ t σ H1 fun vs H2 => sp (x :: vs) H2 Q (E σ)
def tMethC (C : Addr) (m : Str) (sp : Sp) (E : St → XK) (to : TE) (t : TA) : TE := fun σ H Q => to σ H fun x H1 =>
  ∃ a dx fs, x = .ref a ∧ H1 a = some (.ins C dx fs) ∧ fs.lookup m = none ∧ t σ H1 fun vs H2 => sp (x :: vs) H2 Q (E σ)
def tMakeE (C : Addr) (sp : Sp) (E : St → XK) (t : TA) : TE := fun σ H Q => t σ H fun vs H1 =>
  ∀ x dx, H1 x = none → H1 dx = none → dx ≠ x → sp (.ref x :: vs) (upd (upd H1 dx (.own x)) x (.ins C dx [])) (fun v H2 => v = .non ∧ Q (.ref x) H2) (E σ)
section
variable {X : Cx} {CX : CXT} {k : Nat} {f C : Addr} {fd : FuncData} {ps : List Str} {sp : Sp} {E : St → XK} {x m : Str} {p pos apos : Pos} {e o : Expr} {es : List Expr} {to : TE} {t : TA}
theorem pe_methE {pl : Sem Bool} (he : PE X o to) (c : Cls X.K C) (hm : Meth X.K C m f) (F : FnOk X.prog X.w X.K X.mg X.base CX k f fd ps sp) (hr : Room k X.A) (hb : Binds X.K fd ps []) (hx : ∀ σ, PassesAt CX X σ (E σ)) (ha : PA X (e :: es) t)
    (hst : starEach (e :: es) X.env = (false, eval e X.env) :: starEach es X.env := by rfl)
    (hpl : (backTo pos (starEach es X.env)).any (·.1) = false := by rfl)
    (ht : eval (.Call (.Attribute o m apos) (e :: es) [] pos) X.env = (eval o X.env >>= fun ov => standAt apos.atName >>= fun _ =>
      holding [ov] (getMethod ov m pl) >>= fun g => callWith pos g.1 g.2 (backTo pos (starEach (e :: es) X.env)) (backToKw pos (keywordEach [] X.env))) := by rfl) :
    PE X (.Call (.Attribute o m apos) (e :: es) [] pos) (tMethC C m sp E to t) := by
  constructor
  intro pins s σ H Q I h
  refine PySem.W.methodCall_KW (pl := pl) (thn (he.run pins s σ H _ I h) fun u s1 hh => ?_) ht
  obtain ⟨x, H1, I1, rx, a, dx, fs, ex, ea, l, q⟩ := hh
  subst ex
  cases rx
  refine getmeth_ok I1 ea c hm l ?_
  refine PySem.W.callWith_K (first := [.ref a]) (h₀ := X.base) I.ok.mod.kin hm.kp ?_ hst hpl
  refine thn (ha.run pos pins s1 σ H1 _ I1 q) fun us s2 hq => ?_
  obtain ⟨vs, H2, I2, r, q2⟩ := hq
  exact ⟨I2.kIn, run_fnS (us := .ref a :: us) (vs := .ref a :: vs) F hr hb (hx σ) I2 (.cons rfl r) q2⟩
theorem run_makeE {pins : List (Addr × Obj)} {σ : St} {H : Hp} {s : Shared} {Q : VK} {us : List Value} {vs : List V} (M : Mk X.K C f) (F : FnOk X.prog X.w X.K X.mg X.base CX k f fd ps sp) (hr : Room (k + 1) X.A) (hb : Binds X.K fd ps [])
    (hx : PassesAt CX X σ (E σ)) (I : Inv X pins σ H s) (r : Vals vs us)
    (h : ∀ x dx, H x = none → H dx = none → dx ≠ x → sp (.ref x :: vs) (upd (upd H dx (.own x)) x (.ins C dx [])) (fun v H2 => v = .non ∧ Q (.ref x) H2) (E σ)) :
    wpAny (model X.prog X.w) X.A (call (.ref C) us) (EP X pins σ Q) X.xe s := by
  have n0 := I.hok.fresh (Nat.le_succ s.heap.objs.size)
  have n1 := I.hok.fresh (Nat.le_refl s.heap.objs.size)
  have hq := h _ _ n0 n1 (Nat.ne_of_lt (Nat.lt_succ_self _))
  have J := Inv.made (C := C) I
  have r2 : Vals (V.ref (s.heap.objs.size + 1) :: vs) (Value.ref (s.heap.objs.size + 1) :: us) := .cons rfl r
  have hl : (Value.ref (s.heap.objs.size + 1) :: us).length = ps.length := by
    rw [← r2.length]
    exact F.len _ _ _ _ hq
  have b := hb _ (Value.ref (s.heap.objs.size + 1) :: us) J.kIn (by rw [List.append_nil]; exact hl)
  rw [List.append_nil] at b
  refine wpAny_call (make_map (f := f) I.kIn M.makes M.init (beq_iff_eq.mp M.fn) (codeAny_mono (F.run _ X.stack _ _ ⟨Value.ref (s.heap.objs.size + 1) :: us, []⟩ _ _ _ (E σ) (hr.make C us []) (J.env0.make C us []) b r2 hq) fun z s' w => ?_))
  cases z with
  | error er => exact hx pins _ _ er s' J w
  | ok fl =>
    cases fl with
    | ret u =>
      obtain ⟨v, H', J3, rv, ev, q3⟩ := J.after w
      subst ev
      exact ⟨rv, V.ref (s.heap.objs.size + 1), H', J3, rfl, q3⟩
    | next => exact w.elim
    | brk => exact w.elim
    | cont => exact w.elim
theorem pe_makeE (M : Mk X.K C f) (F : FnOk X.prog X.w X.K X.mg X.base CX k f fd ps sp) (hr : Room (k + 1) X.A) (hg : Gl X x) (hm : X.mg x = some (.ref C)) (hb : Binds X.K fd ps []) (hx : ∀ σ, PassesAt CX X σ (E σ)) (ha : PA X (e :: es) t)
    (hdb : (x == ("__debug__" : Str)) = false := by decide) (he : starEach (e :: es) X.env = (false, eval e X.env) :: starEach es X.env := by rfl)
    (hpl : (backTo pos (starEach es X.env)).any (·.1) = false := by rfl) : PE X (.Call (.Name x p) (e :: es) [] pos) (tMakeE C sp E t) := by
  constructor
  intro pins s σ H Q I h
  refine wpAny_Call_Name_kw (ld_glob I hg hm ?_ hdb)
  refine PySem.W.callWith_K (h₀ := X.base) I.ok.mod.kin M.kp ?_ he hpl
  refine thn (ha.run pos pins s σ H _ I h) fun us s1 hq => ?_
  obtain ⟨vs, H1, I1, r, q⟩ := hq
  exact ⟨I1.kIn, run_makeE M F hr hb (hx σ) I1 r q⟩
end
end YF

/-! more readings that leave the heap as it is, and stores told by their heap -/
namespace YF
open PySem PySem.Spec PyProof.Rows L2
/-- arguments that leave the heap as it is -/
def Ta (ta : TA) (σ : St) (H : Hp) (vs : List V) : Prop := ∀ Q : List V → Hp → Prop, Q vs H → ta σ H Q
/-- a promise kept without a change: v is given back -/
def Gives (sp : Sp) (vs : List V) (H : Hp) (v : V) (E : XK) : Prop := ∀ Q : VK, Q v H → sp vs H Q E
theorem lk_here {k f : Str} {v : V} {r : List (Str × V)} (h : (f == k) = true) : List.lookup f ((k, v) :: r) = some v := by
  rw [List.lookup_cons, h]
theorem lk_on {k f : Str} {v : V} {r : List (Str × V)} (h : (f == k) = false) : List.lookup f ((k, v) :: r) = List.lookup f r := by
  rw [List.lookup_cons, h]
theorem pf_here {k f : Str} {v u : V} {r : List (Str × V)} (h : k = f) : putF f u ((k, v) :: r) = (k, u) :: r := by
  show (if k = f then (k, u) :: r else (k, v) :: putF f u r) = _
  rw [if_pos h]
theorem pf_on {k f : Str} {v u : V} {r : List (Str × V)} (h : ¬ k = f) : putF f u ((k, v) :: r) = (k, v) :: putF f u r := by
  show (if k = f then (k, u) :: r else (k, v) :: putF f u r) = _
  rw [if_neg h]
section
variable {K : PySem.W.Frag} {σ : St} {H : Hp} {ta tb tc te to : TE} {t : TA} {x y z v : V} {i j : Int} {p C dx : Addr} {fs : List (Str × V)} {xs vs : List V} {f m : Str} {sp : Sp} {E : XK}
theorem ta_nil : Ta tNil σ H [] := fun Q q => q
theorem ta_cons (ha : Te te σ H v) (hb : Ta t σ H vs) : Ta (tCons te t) σ H (v :: vs) := fun Q q => ha _ (hb _ q)
theorem te_ixL (ha : Te ta σ H (.ref p)) (hb : Te tb σ H (.int i)) (h : SqL K H p xs) (e : atI xs i = some v) : Te (tOp (rIxL K) ta tb) σ H v := fun Q q => ha _ (hb _ ⟨p, xs, i, v, rfl, rfl, h, e, q⟩)
theorem te_ixT {p : Addr} (ha : Te ta σ H (.ref p)) (hb : Te tb σ H (.int i)) (h : SqT K H p xs) (e : atI xs i = some v) : Te (tOp (rIxT K) ta tb) σ H v := fun Q q => ha _ (hb _ ⟨p, xs, i, v, rfl, rfl, h, e, q⟩)
theorem te_fld (ha : Te ta σ H (.ref p)) (h : H p = some (.ins C dx fs)) (c : Cls K C) (n : NoAttr K C f) (l : fs.lookup f = some v) : Te (tFld K ta f) σ H v := fun Q q => ha _ ⟨p, C, dx, fs, v, rfl, h, c, n, l, q⟩
theorem te_dgetI {kvs : List (Key × V)} (ha : Te ta σ H (.ref p)) (hb : Te tb σ H (.int i)) (h : H p = some (.dK kvs)) (e : valV kvs (.inl i : Key) = some v) : Te (tDGet ta tb) σ H v := fun Q q =>
  ha _ (hb _ ⟨p, v, rfl, by rw [← e]; exact DGet.k (k := (.inl i : Key)) h, q⟩)
theorem te_dgetS {kvs : List (Key × V)} {s : Str} (ha : Te ta σ H (.ref p)) (hb : Te tb σ H (.str s)) (h : H p = some (.dK kvs)) (e : valV kvs (.inr s : Key) = some v) : Te (tDGet ta tb) σ H v := fun Q q =>
  ha _ (hb _ ⟨p, v, rfl, by rw [← e]; exact DGet.k (k := (.inr s : Key)) h, q⟩)
theorem te_dget1I {kvs : List (Key × V)} (ha : Te ta σ H (.ref p)) (hb : Te tb σ H (.int i)) (h : H p = some (.dK kvs)) (d : IsD H p) : Te (tDGet1 ta tb) σ H ((valV kvs (.inl i : Key)).getD .non) := fun Q q =>
  ha _ ⟨p, rfl, d, hb _ ⟨_, DGet.k (k := (.inl i : Key)) h, q⟩⟩
theorem te_dget2I {kvs : List (Key × V)} (ha : Te ta σ H (.ref p)) (hb : Te tb σ H (.int i)) (hc : Te tc σ H z) (h : H p = some (.dK kvs)) (d : IsD H p) : Te (tDGet2 ta tb tc) σ H ((valV kvs (.inl i : Key)).getD z) := fun Q q =>
  ha _ ⟨p, rfl, d, hb _ (hc _ ⟨_, DGet.k (k := (.inl i : Key)) h, q⟩)⟩
theorem te_isN (ha : Te ta σ H x) : Te (tOp (fun x y H Q => y = .non ∧ Q (.bl (decide (x = .non))) H) ta (tC .non)) σ H (.bl (decide (x = .non))) := fun Q q => ha _ ⟨rfl, q⟩
theorem te_notN (ha : Te ta σ H x) : Te (tOp (fun x y H Q => y = .non ∧ Q (.bl (!decide (x = .non))) H) ta (tC .non)) σ H (.bl (!decide (x = .non))) := fun Q q => ha _ ⟨rfl, q⟩
theorem te_int1 (ha : Te ta σ H (.int i)) : Te (tCB (fun xs H Q => (∃ i, xs = [.int i] ∧ Q (.int i) H) ∨ ∃ k, xs = [.bl k] ∧ Q (.int (if k then 1 else 0)) H) (tCons ta tNil)) σ H (.int i) := fun Q q => ha _ (.inl ⟨i, rfl, q⟩)
theorem te_int1b {b : Bool} (ha : Te ta σ H (.bl b)) : Te (tCB (fun xs H Q => (∃ i, xs = [.int i] ∧ Q (.int i) H) ∨ ∃ k, xs = [.bl k] ∧ Q (.int (if k then 1 else 0)) H) (tCons ta tNil)) σ H (.int (if b then 1 else 0)) := fun Q q => ha _ (.inr ⟨b, rfl, q⟩)
theorem te_call (ha : Ta t σ H vs) (g : Gives sp vs H v E) : Te (tCall sp [] E t) σ H v := fun Q q => ha _ (by
  show sp (vs ++ []) H Q E
  rw [List.append_nil]
  exact g Q q)
theorem te_meth (ha : Te to σ H (.ref p)) (h : H p = some (.ins C dx fs)) (l : fs.lookup m = none) (hb : Ta t σ H vs) (g : Gives sp (.ref p :: vs) H v E) : Te (tMeth C m sp [] E to t) σ H v := fun Q q => ha _ ⟨p, dx, fs, rfl, h, l, hb _ (by
  show sp (.ref p :: (vs ++ [])) H Q E
  rw [List.append_nil]
  exact g Q q)⟩
theorem te_andV {a b : Bool} (ha : Te ta σ H (.bl a)) (hb : a = true → Te tb σ H (.bl b)) : Te (tAndV ta tb) σ H (.bl (a && b)) := fun Q q => ha _ ⟨a, rfl, by
  cases a with
  | true => exact hb rfl Q q
  | false => exact q⟩
theorem te_orV {a b : Bool} (ha : Te ta σ H (.bl a)) (hb : a = false → Te tb σ H (.bl b)) : Te (tOrV ta tb) σ H (.bl (a || b)) := fun Q q => ha _ ⟨a, rfl, by
  cases a with
  | true => exact q
  | false => exact hb rfl Q q⟩
theorem te_notV {a : Bool} (ha : Te ta σ H (.bl a)) : Te (tNotV ta) σ H (.bl (!a)) := fun Q q => ha _ ⟨a, rfl, q⟩
theorem tt_true {b : Bool} (h : Te te σ H (.bl b)) : Tt (tTest te) σ H b := tt_test h
variable {D : Ends} {rest : TS}
/-- a[k] = e, a list -/
theorem st_lst {q j : Nat} {k : Int} (h : Te te σ H v) (hp : Te to σ H (.ref p)) (hi : Te ta σ H (.int k)) (e : H p = some (.lst xs)) (hk : ixN xs.length k = some j) (r : rest D σ (upd H p (.lst (xs.set j v)))) :
    tSeq (tAsg te (gSub to ta rSetL)) rest D σ H := h _ (hp _ (hi _ ⟨p, xs, k, j, rfl, rfl, e, hk, r⟩))
theorem st_fld (h : Te te σ H v) (hp : Te to σ H (.ref p)) (e : H p = some (.ins C dx fs)) (c : Cls K C) (n : NoAttr K C f) (l : fs.length < 1000) (r : rest D σ (upd H p (.ins C dx (putF f v fs)))) :
    tSeq (sFld K to te f) rest D σ H := h _ (hp _ ⟨p, C, dx, fs, rfl, e, c, n, l, r⟩)
theorem st_dputI {kvs : List (Key × V)} (h : Te te σ H v) (hp : Te to σ H (.ref p)) (hi : Te ta σ H (.int i)) (e : H p = some (.dK kvs)) (l : kvs.length < sizeLine) (r : D.nx σ (upd H p (.dK (putK kvs (.inl i : Key) v)))) :
    sDPut to ta te D σ H := h _ (hp _ (hi _ ⟨p, _, rfl, DPut.k (k := (.inl i : Key)) e l, r⟩))
theorem st_dputS {kvs : List (Key × V)} {s : Str} (h : Te te σ H v) (hp : Te to σ H (.ref p)) (hi : Te ta σ H (.str s)) (e : H p = some (.dK kvs)) (l : kvs.length < sizeLine) (r : D.nx σ (upd H p (.dK (putK kvs (.inr s : Key) v)))) :
    sDPut to ta te D σ H := h _ (hp _ (hi _ ⟨p, _, rfl, DPut.k (k := (.inr s : Key)) e l, r⟩))
theorem sq_go {t u : TS} (h : t { D with nx := u D } σ H) : tSeq t u D σ H := h
end
end YF

/-! a def within a def that is handed over and called by a parameter's name: its captured cells are told by the heap for as long -/
namespace YF
open PySem PySem.Spec PyProof.Rows L2 NdefX
abbrev Zs := List (Addr × Obj)
/-- the object at c is o -/
def CellH (c : Addr) (o : Obj) : HO := .ext fun h => h.get? c = some o
def addZ (zs : Zs) (H : Hp) : Hp := fun b => match zs.lookup b with
  | some o => some (CellH b o)
  | none => H b
def delZ (zs : Zs) (H : Hp) : Hp := fun b => match zs.lookup b with
  | some _ => none
  | none => H b
def HasZ (zs : Zs) (H : Hp) : Prop := ∀ c o, zs.lookup c = some o → H c = some (CellH c o)
def NoZ (zs : Zs) (H : Hp) : Prop := ∀ c o, zs.lookup c = some o → H c = none
def AtZ (zs : Zs) (h : Heap) : Prop := ∀ c o, zs.lookup c = some o → h.get? c = some o
section
variable {zs : Zs} {H H' : Hp} {b c : Addr} {o : Obj} {u : HO}
theorem addZ_in (h : zs.lookup b = some o) : addZ zs H b = some (CellH b o) := by
  unfold addZ
  rw [h]
theorem addZ_out (h : zs.lookup b = none) : addZ zs H b = H b := by
  unfold addZ
  rw [h]
theorem delZ_in (h : zs.lookup b = some o) : delZ zs H b = none := by
  unfold delZ
  rw [h]
theorem delZ_out (h : zs.lookup b = none) : delZ zs H b = H b := by
  unfold delZ
  rw [h]
theorem look_cases (b : Addr) : (∃ o, zs.lookup b = some o) ∨ zs.lookup b = none := by
  cases e : zs.lookup b with
  | none => exact .inr rfl
  | some o => exact .inl ⟨o, rfl⟩
theorem addZ_del (h : HasZ zs H) : addZ zs (delZ zs H) = H := by
  funext b
  rcases look_cases (zs := zs) b with ⟨o, e⟩ | e
  · rw [addZ_in e, h b o e]
  · rw [addZ_out e, delZ_out e]
theorem delZ_add (h : NoZ zs H) : delZ zs (addZ zs H) = H := by
  funext b
  rcases look_cases (zs := zs) b with ⟨o, e⟩ | e
  · rw [delZ_in e, h b o e]
  · rw [delZ_out e, addZ_out e]
theorem HasZ.add : HasZ zs (addZ zs H) := fun c o e => addZ_in e
theorem NoZ.del : NoZ zs (delZ zs H) := fun c o e => delZ_in e
theorem HasZ.out (h : HasZ zs H) (e : H b = none) : zs.lookup b = none := by
  rcases look_cases (zs := zs) b with ⟨o, q⟩ | q
  · rw [h b o q] at e
    cases e
  · exact q
theorem NoZ.out (h : NoZ zs H) (e : H b = some u) : zs.lookup b = none := by
  rcases look_cases (zs := zs) b with ⟨o, q⟩ | q
  · rw [h b o q] at e
    cases e
  · exact q
/-- an object of another kind stands as it stood -/
theorem addZ_some (h : NoZ zs H) (e : H b = some u) : addZ zs H b = some u := by rw [addZ_out (h.out e)]; exact e
theorem delZ_some (h : HasZ zs H) (e : H b = some u) (n : ∀ o, u ≠ CellH b o) : delZ zs H b = some u := by
  rcases look_cases (zs := zs) b with ⟨o, q⟩ | q
  · rw [h b o q] at e
    exact absurd (Option.some.inj e).symm (n o)
  · rw [delZ_out q]
    exact e
variable {P : Program} {w : World} {h h' B : Heap} {fs : List Addr}
theorem hok_add (k : HOk P w H h) (n : NoZ zs H) (z : AtZ zs h) : HOk P w (addZ zs H) h := fun a u e => by
  rcases look_cases (zs := zs) a with ⟨o, q⟩ | q
  · rw [addZ_in q] at e
    cases e
    exact ⟨z a o q, ⟨o, z a o q⟩, fun h1 h2 g st => st _ g⟩
  · rw [addZ_out q] at e
    exact (k a u e).stay (fun b v _ g => g) (fun b g => addZ_some n g) fun b xs g => addZ_some n g
theorem hok_del (k : HOk P w H h) (n : HasZ zs H) : HOk P w (delZ zs H) h := fun a u e => by
  rcases look_cases (zs := zs) a with ⟨o, q⟩ | q
  · rw [delZ_in q] at e
    cases e
  · rw [delZ_out q] at e
    exact (k a u e).stay (fun b v _ g => g) (fun b g => delZ_some n g fun o z => by cases z) fun b xs g => delZ_some n g fun o z => by cases z
theorem hok_at (k : HOk P w H h) (n : HasZ zs H) : AtZ zs h := fun c o e => (k c _ (n c o e)).1
theorem un_del (u : Un fs [] (addZ zs H) H' h h') (n : NoZ zs H) (z : AtZ zs h) (z' : AtZ zs h') (n' : HasZ zs H') : Un fs [] H (delZ zs H') h h' where
  keep := fun b o e hb hf hx => by
    rcases look_cases (zs := zs) b with ⟨q, g⟩ | g
    · rw [z b q g] at e
      cases e
      exact z' b _ g
    · exact u.keep b o e (by rw [addZ_out g]; exact hb) hf hx
  slot := fun b o e hb hf hx => by
    rcases look_cases (zs := zs) b with ⟨q, g⟩ | g
    · rw [z b q g] at e
      cases e
      exact ⟨o.slots, z' b _ g⟩
    · exact u.slot b o e (by rw [addZ_out g]; exact hb) hf hx
  free := fun b o e hb hx => by
    rcases look_cases (zs := zs) b with ⟨q, g⟩ | g
    · exact delZ_in g
    · rw [delZ_out g]
      exact u.free b o e (by rw [addZ_out g]; exact hb) hx
  there := u.there
  tups := fun b xs e => delZ_some n' (u.tups b xs (addZ_some n e)) fun o q => by cases q
  frzs := fun b o v e => delZ_some n' (u.frzs b o v (addZ_some n e)) fun o q => by cases q
  tbls := fun b ps e => by
    obtain ⟨more, g⟩ := u.tbls b ps (addZ_some n e)
    exact ⟨more, delZ_some n' g fun o q => by cases q⟩
theorem un_no (u : Un fs [] (delZ zs H) H' h h') (z : AtZ zs h) : NoZ zs H' := fun c o e => u.free c o (z c o e) (delZ_in e) (by simp)
theorem un_at (u : Un fs [] (delZ zs H) H' h h') (z : AtZ zs h) (nf : ∀ c o, zs.lookup c = some o → c ∉ fs) : AtZ zs h' := fun c o e => u.keep c o (z c o e) (delZ_in e) (nf c o e) (by simp)
theorem un_add (u : Un fs [] (delZ zs H) H' h h') (n : HasZ zs H) (z : AtZ zs h) : Un fs [] H (addZ zs H') h h' where
  keep := fun b o e hb hf hx => u.keep b o e (by rw [delZ_out (n.out hb)]; exact hb) hf hx
  slot := fun b o e hb hf hx => u.slot b o e (by rw [delZ_out (n.out hb)]; exact hb) hf hx
  free := fun b o e hb hx => by
    rw [addZ_out (n.out hb)]
    exact u.free b o e (by rw [delZ_out (n.out hb)]; exact hb) hx
  there := u.there
  tups := fun b xs e => addZ_some (un_no u z) (u.tups b xs (delZ_some n e fun o q => by cases q))
  frzs := fun b o v e => addZ_some (un_no u z) (u.frzs b o v (delZ_some n e fun o q => by cases q))
  tbls := fun b ps e => by
    obtain ⟨more, g⟩ := u.tbls b ps (delZ_some n e fun o q => by cases q)
    exact ⟨more, addZ_some (un_no u z) g⟩
theorem ub_del (u : UB fs (addZ zs H) H' h B h') (n : NoZ zs H) (z : AtZ zs h) (z' : AtZ zs B) (n' : HasZ zs H') : UB fs H (delZ zs H') h B h' where
  keep := fun b o e hb hf => by
    rcases look_cases (zs := zs) b with ⟨q, g⟩ | g
    · rw [z b q g] at e
      cases e
      exact z' b _ g
    · exact u.keep b o e (by rw [addZ_out g]; exact hb) hf
  slot := u.slot
  free := fun b o e hb => by
    rcases look_cases (zs := zs) b with ⟨q, g⟩ | g
    · exact delZ_in g
    · rw [delZ_out g]
      exact u.free b o e (by rw [addZ_out g]; exact hb)
  there := u.there
  tups := fun b xs e => delZ_some n' (u.tups b xs (addZ_some n e)) fun o q => by cases q
  frzs := fun b o v e => delZ_some n' (u.frzs b o v (addZ_some n e)) fun o q => by cases q
  tbls := fun b ps e => by
    obtain ⟨more, g⟩ := u.tbls b ps (addZ_some n e)
    exact ⟨more, delZ_some n' g fun o q => by cases q⟩
theorem ub_no (u : UB fs (delZ zs H) H' h B h') (z : AtZ zs h) : NoZ zs H' := fun c o e => u.free c o (z c o e) (delZ_in e)
theorem ub_at (u : UB fs (delZ zs H) H' h B h') (z : AtZ zs h) (nf : ∀ c o, zs.lookup c = some o → c ∉ fs) : AtZ zs B := fun c o e => u.keep c o (z c o e) (delZ_in e) (nf c o e)
theorem ub_add (u : UB fs (delZ zs H) H' h B h') (n : HasZ zs H) (z : AtZ zs h) : UB fs H (addZ zs H') h B h' where
  keep := fun b o e hb hf => u.keep b o e (by rw [delZ_out (n.out hb)]; exact hb) hf
  slot := u.slot
  free := fun b o e hb => by
    rw [addZ_out (n.out hb)]
    exact u.free b o e (by rw [delZ_out (n.out hb)]; exact hb)
  there := u.there
  tups := fun b xs e => addZ_some (ub_no u z) (u.tups b xs (delZ_some n e fun o q => by cases q))
  frzs := fun b o v e => addZ_some (ub_no u z) (u.frzs b o v (delZ_some n e fun o q => by cases q))
  tbls := fun b ps e => by
    obtain ⟨more, g⟩ := u.tbls b ps (delZ_some n e fun o q => by cases q)
    exact ⟨more, addZ_some (ub_no u z) g⟩
variable {K : PySem.W.Frag} {mg : Str → Option Value} {base : Heap} {A : Around} {outer : List PySem.Env} {s s' : Shared} {Q : VK} {E : XK} {x : Value}
theorem env_add (e : Env0 P w K mg base A outer s H) (n : NoZ zs H) (z : AtZ zs s.heap) (nf : ∀ c o, zs.lookup c = some o → c ∉ frs outer ∧ base.get? c = none) : Env0 P w K mg base A outer s (addZ zs H) :=
  ⟨e.frames, e.mod, fun b o g => ⟨(e.bs b o g).1, by
    rcases look_cases (zs := zs) b with ⟨q, r⟩ | r
    · rw [(nf b q r).2] at g
      cases g
    · rw [addZ_out r]
      exact (e.bs b o g).2⟩, e.bsz, e.funs, fun b hb => by
    rcases look_cases (zs := zs) b with ⟨q, r⟩ | r
    · exact absurd hb (nf b q r).1
    · rw [addZ_out r]
      exact e.frf b hb, hok_add e.hok n z, e.bare⟩
theorem del_none (e : H b = none) : delZ zs H b = none := by
  rcases look_cases (zs := zs) b with ⟨q, r⟩ | r
  · exact delZ_in r
  · rw [delZ_out r]
    exact e
theorem env_del (e : Env0 P w K mg base A outer s H) (n : HasZ zs H) : Env0 P w K mg base A outer s (delZ zs H) :=
  ⟨e.frames, e.mod, fun b o g => ⟨(e.bs b o g).1, del_none (e.bs b o g).2⟩, e.bsz, e.funs, fun b hb => del_none (e.frf b hb), hok_del e.hok n, e.bare⟩
/-- the cells of a running caller are no frames -/
theorem env_nf (e : Env0 P w K mg base A outer s H) (n : HasZ zs H) : ∀ c o, zs.lookup c = some o → c ∉ frs outer := fun c o q hb => by
  have r := e.frf c hb
  rw [n c o q] at r
  cases r
theorem ce_del (c : CE outer P w (addZ zs H) s (fun v H2 => HasZ zs H2 ∧ Q v (delZ zs H2)) x s') (n : NoZ zs H) (z : AtZ zs s.heap) : CE outer P w H s Q x s' := by
  obtain ⟨v, H', os, bare, un, hok, r, n', q⟩ := c
  exact ⟨v, delZ zs H', os, bare, un_del un n z (hok_at hok n') n', hok_del hok n', r, q⟩
theorem ce_add (c : CE outer P w (delZ zs H) s (fun v H2 => NoZ zs H2 → Q v (addZ zs H2)) x s') (n : HasZ zs H) (z : AtZ zs s.heap) (nf : ∀ c o, zs.lookup c = some o → c ∉ frs outer) : CE outer P w H s Q x s' := by
  obtain ⟨v, H', os, bare, un, hok, r, q⟩ := c
  exact ⟨v, addZ zs H', os, bare, un_add un n z, hok_add hok (un_no un z) (un_at un z nf), r, q (un_no un z)⟩
/-- what a kind of exceptions must bear here -/
structure CXok (CX : CXT) (P : Program) (w : World) : Prop where
  del : ∀ {zs : Zs} {outer : List PySem.Env} {H : Hp} {s s' : Shared} {E : XK} {x : Value}, CX outer (addZ zs H) s (fun c d H2 => HasZ zs H2 ∧ E c d (delZ zs H2)) x s' → NoZ zs H → AtZ zs s.heap → CX outer H s E x s'
  add : ∀ {zs : Zs} {outer : List PySem.Env} {H : Hp} {s s' : Shared} {E : XK} {x : Value}, CX outer (delZ zs H) s (fun c d H2 => NoZ zs H2 → E c d (addZ zs H2)) x s' → HasZ zs H → AtZ zs s.heap → (∀ c o, zs.lookup c = some o → c ∉ frs outer) → CX outer H s E x s'
theorem cxok : CXok (L2.CX P w) P w := by
  refine ⟨fun {zs outer H s s' E x} h n z => ?_, fun {zs outer H s s' E x} h n z nf => ?_⟩
  · obtain ⟨a, B, H', cls, d, e, fl, hok, ub, na, os, ag, n', hE⟩ := h
    exact ⟨a, B, delZ zs H', cls, d, e, fl, hok_del hok n', ub_del ub n z (hok_at hok n') n', del_none na, os, ag, hE⟩
  · obtain ⟨a, B, H', cls, d, e, fl, hok, ub, na, os, ag, hE⟩ := h
    have zB := ub_at ub z nf
    refine ⟨a, B, addZ zs H', cls, d, e, fl, hok_add hok (ub_no ub z) zB, ub_add ub n z, ?_, os, ag, hE (ub_no ub z)⟩
    rcases look_cases (zs := zs) a with ⟨q, r⟩ | r
    · have g := fl.2.1
      rw [zB a q r] at g
      cases g
    · rw [addZ_out r]
      exact na
theorem cxokN : CXok (L2N.CX P w) P w := by
  refine ⟨fun {zs outer H s s' E x} h n z => ?_, fun {zs outer H s s' E x} h n z nf => ?_⟩
  · obtain ⟨a, B, H', cls, d, e, fl, hok, ub, na, os, ag, n', hE⟩ := h
    exact ⟨a, B, delZ zs H', cls, d, e, fl, hok_del hok n', ub_del ub n z (hok_at hok n') n', del_none na, os, ag, hE⟩
  · obtain ⟨a, B, H', cls, d, e, fl, hok, ub, na, os, ag, hE⟩ := h
    have zB := ub_at ub z nf
    refine ⟨a, B, addZ zs H', cls, d, e, fl, hok_add hok (ub_no ub z) zB, ub_add ub n z, ?_, os, ag, hE (ub_no ub z)⟩
    rcases look_cases (zs := zs) a with ⟨q, r⟩ | r
    · have g := fl.2.1
      rw [zB a q r] at g
      cases g
    · rw [addZ_out r]
      exact na
end
end YF

/-! the two calls: a def that is handed a function with cells; a parameter that holds one -/
namespace YF
open PySem PySem.Spec PyProof.Rows L2 NdefX
/-- the objects zs are the captured cells cl; the names fr hold ws -/
structure CapZ (cl : List (Str × Addr)) (fr : List Str) (ws : List (Option V)) (zs : Zs) : Prop where
  len : ws.length = fr.length
  cel : ∀ c o, zs.lookup c = some o → ∃ v, o.data = .cell v
  all : ∀ y c, cl.lookup y = some c → ∃ o, zs.lookup c = some o
  inj : ∀ x y c, cl.lookup x = some c → cl.lookup y = some c → x = y
  has : ∀ (i : Nat) (y : Str), fr[i]? = some y → ∃ c o, cl.lookup y = some c ∧ zs.lookup c = some o ∧ ∀ v, ws[i]? = some (some v) → ∃ u, RelV v u ∧ o.data = .cell (some u)
structure ClOk (P : Program) (w : World) (K : PySem.W.Frag) (mg : Str → Option Value) (base : Heap) (CX : CXT) (k : Nat) (f : Addr) (sp : Sp) : Prop where
  run : ∀ (A : Around) (outer : List PySem.Env) (s : Shared) (H : Hp) (us : List Value) (vs : List V) (Q : VK) (E : XK), Room k A → Env0 P w K mg base A outer s H → Vals vs us → sp vs H Q E →
    codeAny (model P w) A (.call (.ref f) ⟨us, []⟩) (CR CX outer P w H s Q E) s
/-- the promise of a nested def at f, its cells told by the heap -/
def clSp (f : Addr) (F : NF) (fr : List Str) (sp0 : List (Option V) → Sp) : Sp := fun vs H Q E => ∃ (zs : Zs) (ws : List (Option V)), H f = some (FnO f F) ∧ H F.c = some (LamX.CodeO F.c F.qual) ∧ HasZ zs H ∧ CapZ F.cl fr ws zs ∧
  sp0 ws vs (delZ zs H) (fun v H' => NoZ zs H' → Q v (addZ zs H')) fun c d H' => NoZ zs H' → E c d (addZ zs H')
section
variable {P : Program} {w : World} {K : PySem.W.Frag} {mg : Str → Option Value} {base : Heap} {CX : CXT} {k : Nat} {f : Addr} {F : NF} {ps fr : List Str} {sp0 : List (Option V) → Sp} {zs : Zs} {ws : List (Option V)} {H : Hp} {h : Heap} {cl : List (Str × Addr)}
theorem cells_at (c : CapZ cl fr ws zs) (n : HasZ zs H) (k : HOk P w H h) : CellsAt cl fr ws h (delZ zs H) := by
  have z := hok_at k n
  refine ⟨c.len, fun y a e => ?_, c.inj, fun i y e => ?_⟩
  · obtain ⟨o, q⟩ := c.all y a e
    obtain ⟨v, d⟩ := c.cel a o q
    exact ⟨delZ_in q, v, o, z a o q, d⟩
  · obtain ⟨a, o, e1, e2, e3⟩ := c.has i y e
    refine ⟨a, e1, fun v hv => ?_⟩
    obtain ⟨u, r, d⟩ := e3 v hv
    exact ⟨u, r, o, z a o e2, d⟩
theorem not_cell {a : Addr} {φ : Heap → Prop} (c : CapZ cl fr ws zs) (n : HasZ zs H) (k : HOk P w H h) (e : H a = some (.ext φ)) (q : ∀ o, h.get? a = some o → (∃ v, o.data = .cell v) → ¬ φ h) : delZ zs H a = some (.ext φ) := by
  rcases look_cases (zs := zs) a with ⟨o, r⟩ | r
  · have g := hok_at k n a o r
    exact absurd (k a _ e).1 (q o g (c.cel a o r))
  · rw [delZ_out r]
    exact e
theorem clok_of (no : NOk P w K mg base CX k f F ps fr sp0) (cx : CXok CX P w) : ClOk P w K mg base CX k f (clSp f F fr sp0) := by
  refine ⟨fun A outer s H us vs Q E hr e0 r h => ?_⟩
  obtain ⟨zs, ws, hf, hc, n, c, q⟩ := h
  have z := hok_at e0.hok n
  have hf' : delZ zs H f = some (FnO f F) := not_cell c n e0.hok hf fun o g ⟨v, d⟩ ⟨od, sl, doc, pm, ctv, g2⟩ => by
    rw [g] at g2
    cases g2
    cases d
  have hc' : delZ zs H F.c = some (LamX.CodeO F.c F.qual) := not_cell c n e0.hok hc fun o g ⟨v, d⟩ ⟨oc, xs, t, g2, d2, _⟩ => by
    rw [g] at g2
    cases g2
    rw [d] at d2
    cases d2
  refine codeAny_mono (no.run A outer s (delZ zs H) us vs ws _ _ hr (env_del e0 n) hf' hc' (cells_at c n e0.hok) r q) fun y s' hq => ?_
  cases y with
  | error er => exact cx.add hq n z (env_nf e0 n)
  | ok fl =>
    cases fl with
    | ret u => exact ce_add hq n z (env_nf e0 n)
    | next => exact hq.elim
    | brk => exact hq.elim
    | cont => exact hq.elim
end
/-- a call of the name in slot i, which holds a function made elsewhere -/
def tCallP (i : Nat) (S : Addr → Sp → Prop) (E : L2.St → XK) (t : TA) : TE := fun σ H Q => ∃ f F sp, σ[i]? = some (some (.ref f)) ∧ S f sp ∧ H f = some (FnO f F) ∧ t σ H fun vs H1 => H1 f = some (FnO f F) ∧ sp vs H1 Q (E σ)
/-- a call of a def, the cells cl told by the heap meanwhile -/
def tCallC (cl : List (Str × Addr)) (fr : List Str) (js : List Nat) (sp : Sp) (E : L2.St → XK) (t : TA) : TE := fun σ H Q => t σ H fun vs H1 => ∀ zs, CapZ cl fr (js.map (slotAt σ)) zs → NoZ zs H1 →
  sp vs (addZ zs H1) (fun v H2 => HasZ zs H2 ∧ Q v (delZ zs H2)) fun c d H2 => HasZ zs H2 ∧ E σ c d (delZ zs H2)
section
variable {X : Cx} {CX : CXT} {k i : Nat} {f C : Addr} {fd : FuncData} {ps fr : List Str} {cl : List (Str × Addr)} {js : List Nat} {sp : Sp} {S : Addr → Sp → Prop} {E : L2.St → XK} {x : Str} {p pos : Pos} {e : Expr} {es : List Expr} {t : TA}
theorem pe_callP (hS : ∀ f sp, S f sp → ClOk X.prog X.w X.K X.mg X.base CX k f sp) (hr : Room k X.A) (hx : ∀ σ, PassesAt CX X σ (E σ)) (hN : X.N[i]? = some x) (hv : Vis X.env.scope x) (ha : PA X (e :: es) t)
    (hd : (x == ("__debug__" : Str)) = false := by decide) (hcd : (x == ("__classdict__" : Str)) = false := by decide)
    (he : starEach (e :: es) X.env = (false, eval e X.env) :: starEach es X.env := by rfl) (hpl : (backTo pos (starEach es X.env)).any (·.1) = false := by rfl) :
    PE X (.Call (.Name x p) (e :: es) [] pos) (tCallP i S E t) := by
  constructor
  intro pins s σ H Q I h
  obtain ⟨f, F, sp, hs, hSf, hf, ht⟩ := h
  have hload := (pe_var (pos := p) hN hv hd hcd).run pins s σ H (fun v H1 => v = .ref f ∧ H1 = H) I ⟨.ref f, hs, rfl, rfl⟩
  refine wpAny_Call_Name_kw (thn hload fun u s1 hh => ?_)
  obtain ⟨v, H1, I1, r1, ev, eH⟩ := hh
  subst ev
  rw [eH] at I1
  cases r1
  refine PySem.W.callWith_F (first := []) (fnAt_of I1 hf) ?_ he hpl
  refine thn (ha.run pos pins s1 σ H _ I1 ht) fun us s2 hq => ?_
  obtain ⟨vs, H2, I2, r, h1, q⟩ := hq
  refine ⟨fnAt_of I2 h1, ?_⟩
  show wpAny _ _ (call (.ref f) us) _ _ _
  refine wpAny_call (codeAny_mono ((hS f sp hSf).run X.A X.stack s2 H2 us vs Q (E σ) hr I2.env0 r q) fun y s' hy => ?_)
  cases y with
  | error er => exact hx σ pins H2 s2 er s' I2 hy
  | ok fl =>
    cases fl with
    | ret u => exact I2.after hy
    | next => exact hy.elim
    | brk => exact hy.elim
    | cont => exact hy.elim
/-- the objects of cells -/
def cellsOf (cl : List (Str × Addr)) (h : Heap) : Zs := cl.filterMap fun p => if cl.lookup p.1 = some p.2 then (h.get? p.2).map fun o => (p.2, o) else none
theorem cellsOf_mem {h : Heap} {c : Addr} {o : Obj} (m : (c, o) ∈ cellsOf cl h) : h.get? c = some o ∧ ∃ y, cl.lookup y = some c := by
  unfold cellsOf at m
  obtain ⟨q, hq, e⟩ := List.mem_filterMap.mp m
  by_cases b : cl.lookup q.1 = some q.2
  · rw [if_pos b] at e
    obtain ⟨o', g, e2⟩ := Option.map_eq_some_iff.mp e
    cases e2
    exact ⟨g, q.1, b⟩
  · rw [if_neg b] at e
    cases e
theorem look_mem {α : Type} {c : Addr} {o : α} : ∀ {l : List (Addr × α)}, l.lookup c = some o → (c, o) ∈ l
  | [], h => by cases h
  | (b, u) :: r, h => by
    rw [List.lookup_cons] at h
    cases q : (c == b) with
    | true =>
      rw [q] at h
      cases h
      rw [beq_iff_eq.mp q]
      exact List.mem_cons_self
    | false =>
      rw [q] at h
      exact List.mem_cons_of_mem _ (look_mem h)
theorem mem_look {α : Type} {c : Addr} {o : α} : ∀ {l : List (Addr × α)}, (c, o) ∈ l → ∃ o', l.lookup c = some o'
  | [], h => by cases h
  | (b, u) :: r, h => by
    rw [List.lookup_cons]
    cases q : (c == b) with
    | true => exact ⟨_, rfl⟩
    | false =>
      rcases List.mem_cons.mp h with e | e
      · cases e
        simp at q
      · exact mem_look e
theorem str_mem {c : Addr} {y : Str} : ∀ {l : List (Str × Addr)}, l.lookup y = some c → (y, c) ∈ l
  | [], h => by cases h
  | (b, u) :: r, h => by
    rw [List.lookup_cons] at h
    cases q : (y == b) with
    | true =>
      rw [q] at h
      cases h
      rw [beq_iff_eq.mp q]
      exact List.mem_cons_self
    | false =>
      rw [q] at h
      exact List.mem_cons_of_mem _ (str_mem h)
theorem capZ_of {ws : List (Option V)} {h : Heap} {H : Hp} (C : CellsAt cl fr ws h H) : CapZ cl fr ws (cellsOf cl h) ∧ NoZ (cellsOf cl h) H ∧ AtZ (cellsOf cl h) h ∧ ∀ c o, (cellsOf cl h).lookup c = some o → ∃ y, cl.lookup y = some c := by
  have at_ : AtZ (cellsOf cl h) h := fun c o e => (cellsOf_mem (look_mem e)).1
  have nm : ∀ c o, (cellsOf cl h).lookup c = some o → ∃ y, cl.lookup y = some c := fun c o e => (cellsOf_mem (look_mem e)).2
  have all : ∀ y c, cl.lookup y = some c → ∃ o, (cellsOf cl h).lookup c = some o ∧ h.get? c = some o := fun y c e => by
    obtain ⟨_, v, o, g, d⟩ := C.all y c e
    have m : (c, o) ∈ cellsOf cl h := by
      unfold cellsOf
      refine List.mem_filterMap.mpr ⟨(y, c), str_mem e, ?_⟩
      dsimp only
      rw [if_pos e, g]
      rfl
    obtain ⟨o', q⟩ := mem_look m
    exact ⟨o', q, at_ c o' q⟩
  refine ⟨⟨C.len, fun c o e => ?_, fun y c e => ?_, C.inj, fun i y e => ?_⟩, fun c o e => ?_, at_, nm⟩
  · obtain ⟨y, q⟩ := nm c o e
    obtain ⟨_, v, o', g, d⟩ := C.all y c q
    rw [at_ c o e] at g
    cases g
    exact ⟨v, d⟩
  · obtain ⟨o, q, _⟩ := all y c e
    exact ⟨o, q⟩
  · obtain ⟨c, q, r⟩ := C.has i y e
    obtain ⟨o, q2, g⟩ := all y c q
    refine ⟨c, o, q, q2, fun v hv => ?_⟩
    obtain ⟨u, ru, o', g', d⟩ := r v hv
    rw [g] at g'
    cases g'
    exact ⟨u, ru, d⟩
  · obtain ⟨y, q⟩ := nm c o e
    exact (C.all y c q).1
theorem pe_callC (F : FnOk X.prog X.w X.K X.mg X.base CX k f fd ps sp) (cx : CXok CX X.prog X.w) (hfn : ∀ y, X.fn y = true) (cp : X.Ok → Caps X cl fr js) (hr : Room k X.A) (hg : Gl X x) (hm : X.mg x = some (.ref f)) (hk : PySem.W.keepIn X.K (.ref f) = true) (hb : Binds X.K fd ps [])
    (hx : ∀ σ, PassesAt CX X σ (E σ)) (ha : PA X (e :: es) t) (hdb : (x == ("__debug__" : Str)) = false := by decide) (he : starEach (e :: es) X.env = (false, eval e X.env) :: starEach es X.env := by rfl)
    (hpl : (backTo pos (starEach es X.env)).any (·.1) = false := by rfl) : PE X (.Call (.Name x p) (e :: es) [] pos) (tCallC cl fr js sp E t) := by
  constructor
  intro pins s σ H Q I h
  refine wpAny_Call_Name_kw (ld_glob I hg hm ?_ hdb)
  refine PySem.W.callWith_K (h₀ := X.base) I.ok.mod.kin hk ?_ he hpl
  refine thn (ha.run pos pins s σ H _ I h) fun us s1 hq => ?_
  obtain ⟨vs, H1, I1, r, q⟩ := hq
  refine ⟨I1.kIn, ?_⟩
  have cp1 := cp I1.ok
  obtain ⟨c, n, z, nm⟩ := capZ_of (cells_of I1 cp1)
  have q1 := q _ c n
  have nf : ∀ a o, (cellsOf cl s1.heap).lookup a = some o → a ∉ frs X.stack ∧ X.base.get? a = none := fun a o e => by
    obtain ⟨y, hy⟩ := nm a o e
    have hc := cp1.sub y a hy
    have big := I1.ok.cab y a (hfn y) hc
    refine ⟨fun hb => ?_, Heap.get?_none_of_le (Nat.le_trans I1.ok.bsz big)⟩
    rcases List.mem_cons.mp (I1.stkSub a hb) with e1 | e1
    · exact I1.cne y a hc e1
    · obtain ⟨_, o', ho, _⟩ := I1.ok.funs.mem e1
      exact absurd (Nat.lt_of_lt_of_le (Heap.lt_size ho) big) (Nat.lt_irrefl _)
  have hl : us.length = ps.length := by
    rw [← r.length]
    exact F.len _ _ _ _ q1
  have b := hb s1 us I1.kIn (by rw [List.append_nil]; exact hl)
  rw [List.append_nil] at b
  show wpAny _ _ (call (.ref f) us) _ _ _
  refine wpAny_call (codeAny_mono (F.run X.A X.stack s1 (addZ (cellsOf cl s1.heap) H1) ⟨us, []⟩ us vs _ _ hr (env_add I1.env0 n z nf) b r q1) fun y s' hy => ?_)
  cases y with
  | error er => exact hx σ pins H1 s1 er s' I1 (cx.del hy n z)
  | ok fl =>
    cases fl with
    | ret u => exact I1.after (ce_del hy n z)
    | next => exact hy.elim
    | brk => exact hy.elim
    | cont => exact hy.elim
end
end YF

/-! del xs[b:] -/
namespace YF
open PySem PySem.Spec PyProof.Rows L2
/-- of the items numbered from j on those stay whose number is below b -/
theorem stay_below {α : Type} (f : Nat → Bool) (b : Nat) : ∀ (xs : List α) (j : Nat), (∀ k, j ≤ k → k < j + xs.length → f k = decide (b ≤ k)) → (xs.zipIdx j).filterMap (fun p => if f p.2 then none else some p.1) = xs.take (b - j)
  | [], j, _ => by simp
  | x :: r, j, h => by
    have ih := stay_below f b r (j + 1) fun k h1 h2 => h k (by omega) (by simp only [List.length_cons]; omega)
    have h0 := h j (Nat.le_refl _) (by simp only [List.length_cons]; omega)
    rw [List.zipIdx_cons, List.filterMap_cons]
    dsimp only
    rw [h0]
    by_cases e : b ≤ j
    · rw [decide_eq_true e, if_pos rfl, ih, show b - (j + 1) = 0 by omega, show b - j = 0 by omega, List.take_zero, List.take_zero]
    · rw [decide_eq_false e, if_neg (by decide), ih, show b - j = (b - (j + 1)) + 1 by omega, List.take_succ_cons]
section
variable {prog : Program} {w : World} {A : Around} {E : Value → Shared → Prop} {s : Shared}
theorem bounds_from {b n : Nat} (h : b ≤ n) : sliceBounds (some (b : Int)) none none n = ((b : Int), (n : Int), 1) := by
  simp only [sliceBounds, Option.getD_none]
  have h1 : ¬ ((b : Int) < 0) := by omega
  simp only [h1, if_false, show (1 : Int) > 0 by decide, if_true]
  congr 1
  omega
theorem delItem_from {l sl : Addr} {items : List Value} {n : Nat} {vl : Value} {b : Nat} {Q : Unit → Shared → Prop} (e : s.heap.get? l = some { cls := .type "list", data := .seq items.toArray n }) (hs : s.heap.IsSliceOf sl vl .none .none) (pl : IsPart vl (some (b : Int)))
    (hb : b ≤ items.length) (hsz : items.length ≤ sizeLine) (h : ∀ f : Array Value → Array Value, f items.toArray = (items.take b).toArray → Q () { s with heap := s.heap.update l (Obj.mapSeq f) }) :
    wpAny (model prog w) A (delItem (.ref l) (.ref sl)) Q E s := by
  have hl : s.heap.IsList l items.toArray := PySem.IsL.isList e
  obtain ⟨os, hos, hcs, hds⟩ := id hs
  have hTs : s.TypeIs (.ref sl) "slice" := ⟨os, hos, hcs⟩
  have hstep : ¬ ((rawPart none == rawInt 0) = true) := Bool.false_ne_true
  refine wpAny_delItem_slot hl.typeIs (by decide) PySem.F.slot_list_delitem (wpAny_call_entry PySem.F.slot_list_delitem hl.typeIs PySem.F.entry_list_delitem ?_ (PySem.F.args_list_delitem_2 _ _))
  show wpAny _ _ (Builtin.List.listSubscript? (.ref sl) >>= _) _ _ s
  refine wpAny_bind ?_
  unfold Builtin.List.listSubscript?
  refine wpAny_bind (wpAny_specialOf hTs slice_no_index ?_)
  simp only [Option.isNone_none, if_true]
  refine wpAny_pure ?_
  show wpAny _ _ (typeOf (.ref sl) >>= _) _ _ s
  refine wpAny_bind (wpAny_typeOf hTs ?_)
  rw [if_neg (by decide), listSliceParts_eq]
  refine wpAny_bind (wpAny_bind (wpAny_field hos hds (x := .none) rfl (wpAny_bind (wpAny_listPart .none ?_))))
  rw [if_neg hstep]
  refine wpAny_bind (wpAny_field hos hds (x := vl) rfl (wpAny_bind (wpAny_listPart pl ?_)))
  refine wpAny_bind (wpAny_field hos hds (x := .none) rfl (wpAny_bind (wpAny_listPart .none (wpAny_pure ?_))))
  refine wpAny_bind (m := Builtin.List.listItems (.ref l)) ?_
  unfold Builtin.List.listItems
  refine wpAny_bind (wpAny_seqItems e rfl (wpAny_pure ?_))
  refine wpAny_bind (wpAny_of_eq (sliceIndices_raw (some (b : Int)) none none items.toArray.size (by simp)) ?_)
  rw [List.size_toArray, bounds_from hb]
  refine wpAny_bind (wpAny_rule ?_)
  refine wpAny_bind (m := updateSeq l _) (wpAny_updateSeq (hz := by rw [List.size_toArray]; exact hsz) (_hz' := ?_) e rfl ?_)
  · refine wpAny_bind (wpAny_letGo ?_)
    refine wpAny_bind (wpAny_pure (wpAny_pure ⟨.none, rfl, h _ ?_⟩))
    refine congrArg List.toArray ((stay_below _ b items 0 fun k h1 h2 => ?_).trans (by rw [Nat.sub_zero]))
    show (if (1 : Int) > 0 then decide ((b : Int) ≤ (k : Int)) && decide ((k : Int) < (items.length : Int)) && ((k : Int) - (b : Int)) % 1 == 0 else _) = _
    rw [if_pos (by decide)]
    have q1 : decide ((k : Int) < (items.length : Int)) = true := decide_eq_true (by omega)
    have q2 : (((k : Int) - (b : Int)) % 1 == 0) = true := by
      rw [Int.emod_one]
      rfl
    rw [q1, q2, Bool.and_true, Bool.and_true]
    by_cases q : b ≤ k
    · rw [decide_eq_true q, decide_eq_true (by omega)]
    · rw [decide_eq_false q, decide_eq_false (by omega)]
  · rw [List.size_toArray]
    refine Nat.le_trans (List.length_filterMap_le _ _) ?_
    rw [List.length_zipIdx]
    exact Nat.le_succ_of_le hsz
section
variable {X : Cx}
def tDelF (to tl : TE) : TS := fun D σ H => to σ H fun x H1 => tl σ H1 fun y H2 => ∃ (l : Addr) (xs : List V) (b : Nat), x = .ref l ∧ y = .int b ∧ H2 l = some (.lst xs) ∧ b ≤ xs.length ∧ D.nx σ (upd H2 l (.lst (xs.take b)))
theorem ps_delF {o lo : Expr} {to tl : TE} {p2 tpos pos : Pos} (ho : PE X o to) (hl : PE X lo tl) : PS X (.Delete [.Subscript o (.Slice (some lo) none none p2) tpos] pos) (tDelF to tl) := by
  constructor
  intro pins s σ H D I h
  refine wpAny_Delete (wpAny_deleteEach_cons (wpAny_delete_Subscript ?_))
  refine thn (ho.run pins s σ H _ I h) fun u s1 hq => ?_
  obtain ⟨x, H1, I1, rx, q1⟩ := hq
  refine wpAny_Slice ?_
  rw [evalPart_some]
  refine thn (hl.run pins s1 σ H1 _ I1 q1) fun vl s2 hq => ?_
  obtain ⟨y, H2, I2, ry, l, xs, b, ex, ey, hx, hb, q2⟩ := hq
  subst ex ey
  cases rx
  obtain ⟨t, rfl⟩ := ry
  rw [evalPart_none]
  refine wpAny_pure (wpAny_pure ?_)
  have I3 : Inv X pins σ H2 { s2 with heap := s2.heap.push { cls := .type "slice", data := .fields #[.int b t, .none, .none] } } := I2.kept (t' := s2.toks) fun b ob q => Heap.get?_push_of_some _ q
  obtain ⟨z, its, n, r, hn, e⟩ := I3.lstM hx
  refine delItem_from (b := b) e (Heap.IsSliceOf.new ..) (.int _ _) (by omega) (by omega) fun f hf => ?_
  refine wpAny_deleteEach_nil ⟨σ, _, ?_, q2⟩
  refine I3.lset (its' := its.take b) (t' := s2.toks) hx e hf (r.take b) ?_
  rw [List.length_take]
  omega
end
end
end YF

/-! expressions: what one is, what it comes to; a machine that finds it part by part -/
namespace YF
open PySem PySem.Spec PyProof.Rows L2
def InR (n : Int) : Prop := -1000000000 ≤ n ∧ n ≤ 1000000000
instance (n : Int) : Decidable (InR n) := inferInstanceAs (Decidable (_ ∧ _))
inductive Rz where
  | ok (n : Int) | er (r : Str)
  deriving DecidableEq
inductive Ex where
  | num (n : Int) | var (w : Str) (x : D) | cell (x : Str) (a : Ex) | one (w : Str) (a : Ex) | two (w : Str) (a b : Ex)
namespace Ex
def d : Ex → D
  | num n => .tup (.cons (.str "number") (.cons (.int n) .nil))
  | var w x => .tup (.cons (.str w) (.cons x .nil))
  | cell x a => .tup (.cons (.str "cell") (.cons (.str x) (.cons (d a) .nil)))
  | one w a => .tup (.cons (.str w) (.cons (d a) .nil))
  | two w a b => .tup (.cons (.str w) (.cons (d a) (.cons (d b) .nil)))
def parts : Ex → List Ex
  | num _ => []
  | var _ _ => []
  | cell _ a => [a]
  | one _ a => [a]
  | two _ a b => [a, b]
def word : Ex → Str
  | num _ => "number"
  | var w _ => w
  | cell _ _ => "cell"
  | one w _ => w
  | two w _ _ => w
def words1 : List Str := ["not", "negative"]
def words2 : List Str := ["plus", "minus", "times", "over", "rest", "less", "atmost", "same", "and", "or"]
def isLeaf (w : Str) : Prop := w = "local" ∨ w = "slot"
/-- well said -/
def ok : Ex → Prop
  | num _ => True
  | var w x => (w = "local" ∨ w = "slot") ∧ x.isRow = false
  | cell _ a => a.ok
  | one w a => w ∈ words1 ∧ a.ok
  | two w a b => w ∈ words2 ∧ a.ok ∧ b.ok
theorem d_row : ∀ e : Ex, e.d.isRow = false
  | num _ => rfl
  | var _ _ => rfl
  | cell _ _ => rfl
  | one _ _ => rfl
  | two _ _ _ => rfl
end Ex
def b1 (b : Bool) : Int := if b then 1 else 0
def f1 (w : Str) (n : Int) : Int := if w = "not" then b1 (decide (n = 0)) else -n
/-- two operands: none where it is divided by 0 -/
def f2 (w : Str) (a b : Int) : Option Int :=
  if w = "plus" then some (a + b) else if w = "minus" then some (a - b) else if w = "times" then some (a * b) else if w = "less" then some (b1 (decide (a < b))) else if w = "atmost" then some (b1 (decide (a ≤ b)))
  else if w = "same" then some (b1 (decide (a = b))) else if b = 0 then none else if w = "over" then some (Int.fdiv a b) else some (a - b * Int.fdiv a b)
def chk (n : Int) : Rz := if InR n then .ok n else .er "range"
def logic (w : Str) : Prop := w = "and" ∨ w = "or"
instance (w : Str) : Decidable (logic w) := inferInstanceAs (Decidable (_ ∨ _))
/-- no further part is needed -/
def dec (w : Str) (is : List Int) : Bool := if w = "and" then decide (is = [0]) else decide (w = "or") && (decide (is.length = 1) && !decide (is.head? = some 0))
section
variable {S : Type} (lk : S → Ex → List Int → Rz × S)
/-- a part whose needed parts have these values -/
def resE (s : S) : Ex → List Int → Rz × S
  | .num n, _ => (chk n, s)
  | .var w x, is => lk s (.var w x) is
  | .cell x a, is => lk s (.cell x a) is
  | .one w _, is => (chk (f1 w (is.headD 0)), s)
  | .two w _ _, is => if logic w then (.ok (b1 (!decide (is.getLastD 0 = 0))), s) else match f2 w (is.headD 0) (is.getLastD 0) with
    | some n => (chk n, s)
    | none => (.er "zero", s)
def thenE (r : Rz × S) (k : Int → S → Rz × S) : Rz × S := match r with
  | (.ok n, s) => k n s
  | (.er z, s) => (.er z, s)
def ev : S → Ex → Rz × S
  | s, .num n => resE lk s (.num n) []
  | s, .var w x => resE lk s (.var w x) []
  | s, .cell x a => thenE (ev s a) fun i s => resE lk s (.cell x a) [i]
  | s, .one w a => thenE (ev s a) fun i s => resE lk s (.one w a) [i]
  | s, .two w a b => thenE (ev s a) fun i s => if dec w [i] = true then resE lk s (.two w a b) [i] else thenE (ev s b) fun j s => resE lk s (.two w a b) [i, j]
/-- the value of e, of which some parts are known -/
def cont (s : S) : Ex → List Int → Rz × S
  | e, [] => ev lk s e
  | .two w a b, [i] => if dec w [i] = true then resE lk s (.two w a b) [i] else thenE (ev lk s b) fun j s => resE lk s (.two w a b) [i, j]
  | e, is => resE lk s e is
abbrev Fr := Ex × List Int
def plug : List Fr → Int → S → Rz × S
  | [], v, s => (.ok v, s)
  | f :: r, v, s => thenE (cont lk s f.1 (f.2 ++ [v])) fun v s => plug r v s
def fin (s : S) (t : Fr) (below : List Fr) : Rz × S := thenE (cont lk s t.1 t.2) fun v s => plug lk below v s
def needs (e : Ex) (is : List Int) : Bool := decide (is.length < e.parts.length) && !dec e.word is
/-- a step down -/
theorem fin_down {s : S} {e c : Ex} {is : List Int} {below : List Fr} (h : needs e is = true) (hc : e.parts[is.length]? = some c) : fin lk s (c, []) ((e, is) :: below) = fin lk s (e, is) below := by
  unfold needs at h
  simp only [Bool.and_eq_true, decide_eq_true_eq, Bool.not_eq_true'] at h
  obtain ⟨h1, h2⟩ := h
  have key : cont lk s e is = thenE (ev lk s c) fun v s => cont lk s e (is ++ [v]) := by
    cases e with
    | num n => simp [Ex.parts] at h1
    | var w x => simp [Ex.parts] at h1
    | cell x a =>
      have e0 : is = [] := List.length_eq_zero_iff.mp (by simp only [Ex.parts, List.length_cons, List.length_nil] at h1; omega)
      subst e0
      have ec : a = c := Option.some.inj hc
      subst ec
      rfl
    | one w a =>
      have e0 : is = [] := List.length_eq_zero_iff.mp (by simp only [Ex.parts, List.length_cons, List.length_nil] at h1; omega)
      subst e0
      have ec : a = c := Option.some.inj hc
      subst ec
      rfl
    | two w a b =>
      cases is with
      | nil =>
        have ec : a = c := Option.some.inj hc
        subst ec
        rfl
      | cons i r =>
        have e0 : r = [] := List.length_eq_zero_iff.mp (by simp only [Ex.parts, List.length_cons, List.length_nil] at h1; omega)
        subst e0
        have ec : b = c := Option.some.inj hc
        subst ec
        show (if dec w [i] = true then _ else _) = _
        have h2 : dec w [i] = false := h2
        rw [h2, if_neg (by decide)]
        rfl
  show thenE (cont lk s c []) _ = thenE (cont lk s e is) _
  rw [key]
  have e0 : cont lk s c [] = ev lk s c := by cases c <;> rfl
  rw [e0]
  cases ev lk s c with
  | mk r s1 =>
    cases r <;> rfl
theorem dec_nil (w : Str) : dec w [] = false := by
  unfold dec
  by_cases q : w = "and"
  · rw [if_pos q]
    rfl
  · rw [if_neg q]
    simp
/-- a part is done -/
theorem cont_done {s : S} {e : Ex} {is : List Int} (h : needs e is = false) (hl : is.length ≤ e.parts.length) : cont lk s e is = resE lk s e is := by
  have no : ∀ {w : Str} {n : Nat}, (decide (0 < n + 1) && !dec w []) ≠ false := fun {w n} => by
    rw [dec_nil, decide_eq_true (Nat.succ_pos n)]
    decide
  cases e with
  | num n =>
    have e0 : is = [] := List.length_eq_zero_iff.mp (Nat.le_zero.mp hl)
    subst e0
    rfl
  | var w x =>
    have e0 : is = [] := List.length_eq_zero_iff.mp (Nat.le_zero.mp hl)
    subst e0
    rfl
  | cell x a =>
    cases is with
    | nil => exact absurd h (no (n := 0))
    | cons i r => cases r <;> rfl
  | one w a =>
    cases is with
    | nil => exact absurd h (no (n := 0))
    | cons i r => cases r <;> rfl
  | two w a b =>
    cases is with
    | nil => exact absurd h (no (n := 1))
    | cons i r =>
      cases r with
      | nil =>
        have h2 : (!dec w [i]) = false := h
        have h3 : dec w [i] = true := by simpa using h2
        show (if dec w [i] = true then _ else _) = _
        rw [if_pos h3]
      | cons j r => rfl
/-! ### how long it takes -/
def stp : Ex → Nat
  | .num _ => 1
  | .var _ _ => 1
  | .cell _ a => stp a + 2
  | .one _ a => stp a + 2
  | .two _ a b => stp a + stp b + 3
def remN : Ex → Nat → Nat
  | e, 0 => stp e
  | .two _ _ b, 1 => stp b + 2
  | _, _ => 1
theorem stp_pos (e : Ex) : 0 < stp e := by
  cases e <;> simp [stp]
theorem rem_pos (e : Ex) (n : Nat) : 0 < remN e n := by
  cases n with
  | zero => cases e <;> simp [remN, stp]
  | succ n =>
    cases n with
    | zero => cases e <;> simp [remN]
    | succ n => cases e <;> simp [remN]
theorem rem_down {e c : Ex} {n : Nat} (h : e.parts[n]? = some c) : stp c + remN e (n + 1) < remN e n := by
  cases e with
  | num x => cases n <;> simp [Ex.parts] at h
  | var w x => cases n <;> simp [Ex.parts] at h
  | cell x a =>
    cases n with
    | zero =>
      have ec : a = c := Option.some.inj h
      subst ec
      simp [remN, stp]
    | succ n => simp [Ex.parts] at h
  | one w a =>
    cases n with
    | zero =>
      have ec : a = c := Option.some.inj h
      subst ec
      simp [remN, stp]
    | succ n => simp [Ex.parts] at h
  | two w a b =>
    match n, h with
    | 0, h =>
      have ec : a = c := Option.some.inj h
      subst ec
      simp only [remN, stp]
      omega
    | 1, h =>
      have ec : b = c := Option.some.inj h
      subst ec
      simp [remN, stp]
    | n + 2, h => simp [Ex.parts] at h
def left (t : Fr) (below : List Fr) : Nat := remN t.1 t.2.length + (below.map fun f => remN f.1 (f.2.length + 1)).sum
/-- all values known, from the bottom -/
def knowns (t : Fr) (below : List Fr) : List Int := (below.reverse.map (·.2)).flatten ++ t.2
end
end YF

/-! lists that are being written -/
namespace YF
open PySem PySem.Spec PyProof.Rows L2
section
variable {K : PySem.W.Frag}
theorem set_sl {σ σ' : L2.St} {t : TS} {E : Ends} {H : Hp} (e : σ = σ') (h : t E σ' H) : t E σ H := by
  rw [e]
  exact h
theorem te_ixs {σ : L2.St} {H : Hp} {ta tb : TE} {z : Str} {i : Int} {c : Nat} (ha : Te ta σ H (.str z)) (hb : Te tb σ H (.int i)) (h : z.length ≤ sizeLine) (h2 : atI z.cps.toList i = some c) : Te (tOp rIxS ta tb) σ H (.str ⟨#[c]⟩) := fun Q q => ha _ (hb _ ⟨z, i, c, rfl, rfl, h, h2, q⟩)
theorem te_ins {σ : L2.St} {H : Hp} {ta tb : TE} {z : Str} {c : Nat} (ha : Te ta σ H (.str ⟨#[c]⟩)) (hb : Te tb σ H (.str z)) : Te (tOp (fun x y H Q => ∃ (c : Nat) (z : Str), x = .str ⟨#[c]⟩ ∧ y = .str z ∧ Q (.bl (decide (c ∈ z.cps.toList))) H) ta tb) σ H (.bl (decide (c ∈ z.cps.toList))) := fun Q q => ha _ (hb _ ⟨c, z, rfl, rfl, q⟩)
theorem one_eq {c d : Nat} {s : Str} (hs : s = ⟨#[d]⟩) : (V.str ⟨#[c]⟩ = V.str s) ↔ c = d := by
  rw [hs]
  constructor
  · intro h
    have h2 := V.str.inj h
    have h3 := congrArg (fun z : Str => z.cps.toList) h2
    simpa using h3
  · rintro rfl
    rfl
theorem te_cut {σ : L2.St} {H : Hp} {ta tb tc : TE} {z : Str} {i j : Int} (ha : Te ta σ H (.str z)) (hb : Te tb σ H (.int i)) (hc : Te tc σ H (.int j)) (h : z.length ≤ sizeLine) : Te (tSl rSlS ta (tPart tb) (tPart tc)) σ H (.str (cutS z (some i) (some j))) := fun Q q => ha _ (hb _ ⟨i, rfl, hc _ ⟨j, rfl, z, rfl, h, q⟩⟩)
theorem inV_str (t : Str) : ∀ zs : List Str, inV (.str t) (zs.map V.str) = decide (t ∈ zs)
  | [] => by simp [inV]
  | a :: r => by
    have ih := inV_str t r
    simp only [inV, List.map_cons, List.any_cons] at ih ⊢
    rw [ih]
    have e : eqV (.str a) (.str t) = decide (t = a) := by
      show (a == t) = _
      by_cases h : a = t
      · rw [h]
        simp
      · have h2 : ¬ t = a := fun q => h q.symm
        rw [decide_eq_false h2]
        exact beq_eq_false_iff_ne.mpr h
    rw [e]
    simp [List.mem_cons]
theorem all_flat (zs : List Str) : (zs.map V.str).all flatV = true := by
  induction zs with
  | nil => rfl
  | cons a r ih =>
    rw [List.map_cons, List.all_cons, ih]
    rfl
theorem te_inT {σ : L2.St} {H : Hp} {ta tb : TE} {t : Str} {p : Addr} {zs : List Str} (ha : Te ta σ H (.str t)) (hb : Te tb σ H (.ref p)) (h : SqL K H p (zs.map V.str) ∨ SqT K H p (zs.map V.str)) : Te (tOp (rIn K false) ta tb) σ H (.bl (decide (t ∈ zs))) := fun Q q => ha _ (hb _ ⟨p, _, rfl, h, rfl, all_flat zs, by rw [inV_str]; exact q⟩)
/-- x = [..], to be written -/
theorem asg_l0 {X : List Addr} {B H : Hp} {ta : TA} {σ : L2.St} {ds : D} {E : Ends} {rest : TS} {i : Nat} {l : List (V × D)} (h : Eds K X B ta σ ds) (h1 : ds.isRow = true) (h2 : ds.len ≤ 1000) (s : Same B H) (o : Off X B) (j : Ints X H) (e : Env K B l)
    (k : ∀ p vs N H2, Same N H2 → Off X N → Ints X H2 → Env K N l → Rp K N ds vs → N p = none → p ∉ X → H2 p = some (.lst vs) → rest E (σ.set i (some (.ref p))) H2) : tSeq (tAsg (tLst ta) (gName i)) rest E σ H :=
  h B (Same.refl B) H s o j _ fun vs d N H1 g j1 q r => by
    subst q
    have hl : vs.length ≤ 1000 := by rw [Rp.row_len h1 r]; exact h2
    refine ⟨Nat.le_trans hl (by decide), fun p hp => ?_⟩
    have o1 := g.offI o j
    have npx : p ∉ X := fun m => by
      obtain ⟨ns, q⟩ := j1 p m
      rw [hp] at q
      cases q
    refine k p vs N (upd H1 p (.lst vs)) (Same.wr g.nh (g.nh.free hp)) o1 (fun a m => ?_) (e.mono g.bn) r (g.nh.free hp) npx upd_same
    obtain ⟨ns, q⟩ := j1 a m
    exact ⟨ns, Same.upd hp a _ q⟩
/-- x.append(e) to such a list -/
theorem app_go {X : List Addr} {B H : Hp} {te : TE} {σ : L2.St} {d ds : D} {E : Ends} {rest : TS} {i : Nat} {l : List (V × D)} {p : Addr} {vs : List V} (h : Ed K X B te σ d) (hi : σ[i]? = some (some (.ref p))) (hp : H p = some (.lst vs)) (hl : vs.length ≤ 1000) (hB : B p = none) (npx : p ∉ X) (s : Same B H) (o : Off X B) (j : Ints X H) (e : Env K B l) (r : Rp K B ds vs)
    (k : ∀ v N H2, Same N H2 → Off X N → Ints X H2 → Env K N l → Rp K N ds vs → Rp K N d [v] → N p = none → H2 p = some (.lst (vs ++ [v])) → rest E σ H2) : tSeq (tDrop (tBM K "list" rAppend (tVar i) (tCons te tNil))) rest E σ H := by
  refine ⟨_, hi, .inl ⟨rfl, _, SqL.of hp⟩, h.go s o j fun v N H1 g j1 rv => ?_⟩
  have hN : N p = none := by
    cases q : N p with
    | none => rfl
    | some u =>
      rcases g.frs p u q with q2 | q2
      · rw [hB] at q2
        cases q2
      · rw [hp] at q2
        cases q2
  refine ⟨p, vs, v, rfl, rfl, g.keep p _ npx hp, Nat.lt_of_le_of_lt hl (by decide), ?_⟩
  refine k v N _ (Same.wr g.nh hN) (g.offI o j) (fun a m => ?_) (e.mono g.bn) (Rp.mono g.bn r) rv hN upd_same
  obtain ⟨ns, q⟩ := j1 a m
  exact ⟨ns, by rw [upd_ne (fun z => npx (by rw [← z]; exact m))]; exact q⟩
/-- the same, and what was known stands -/
theorem app_go2 {X : List Addr} {B H : Hp} {te : TE} {σ : L2.St} {d ds : D} {E : Ends} {rest : TS} {i : Nat} {p : Addr} {vs : List V} (h : Ed K X B te σ d) (hi : σ[i]? = some (some (.ref p))) (hp : H p = some (.lst vs)) (hl : vs.length ≤ 1000) (hB : B p = none) (npx : p ∉ X) (s : Same B H) (o : Off X B) (j : Ints X H) (r : Rp K B ds vs)
    (k : ∀ v N H2, Same B N → Same N H2 → Off X N → Ints X H2 → Rp K N ds vs → Rp K N d [v] → N p = none → H2 p = some (.lst (vs ++ [v])) → rest E σ H2) : tSeq (tDrop (tBM K "list" rAppend (tVar i) (tCons te tNil))) rest E σ H := by
  refine ⟨_, hi, .inl ⟨rfl, _, SqL.of hp⟩, h.go s o j fun v N H1 g j1 rv => ?_⟩
  have hN : N p = none := by
    cases q : N p with
    | none => rfl
    | some u =>
      rcases g.frs p u q with q2 | q2
      · rw [hB] at q2
        cases q2
      · rw [hp] at q2
        cases q2
  refine ⟨p, vs, v, rfl, rfl, g.keep p _ npx hp, Nat.lt_of_le_of_lt hl (by decide), ?_⟩
  refine k v N _ g.bn (Same.wr g.nh hN) (g.offI o j) (fun a m => ?_) (Rp.mono g.bn r) rv hN upd_same
  obtain ⟨ns, q⟩ := j1 a m
  exact ⟨ns, by rw [upd_ne (fun z => npx (by rw [← z]; exact m))]; exact q⟩
theorem same_know {N H : Hp} {p : Addr} {o : HO} (s : Same N H) (h : H p = some o) : Same (upd N p o) H := fun a u q => by
  by_cases z : a = p
  · subst z
    rw [upd_same] at q
    cases q
    exact h
  · rw [upd_ne z] at q
    exact s a u q
/-- from now on it is known -/
theorem know_go {X : List Addr} {N H : Hp} {l : List (V × D)} {p : Addr} {vs : List V} {ds : D} (s : Same N H) (o : Off X N) (e : Env K N l) (r : Rp K N ds vs) (hl : vs.length ≤ 100000) (hN : N p = none) (npx : p ∉ X) (hp : H p = some (.lst vs)) :
    ∃ N2, Same N2 H ∧ Off X N2 ∧ Env K N2 ((.ref p, .lst ds) :: l) := by
  have s2 : Same N (upd N p (.lst vs)) := Same.upd hN
  refine ⟨upd N p (.lst vs), fun a u q => ?_, fun a m => ?_, (e.mono s2).add ⟨p, vs, rfl, SqL.of upd_same, hl, Rp.mono s2 r⟩⟩
  · by_cases z : a = p
    · subst z
      rw [upd_same] at q
      cases q
      exact hp
    · rw [upd_ne z] at q
      exact s a u q
  · rw [upd_ne (fun z => npx (by rw [← z]; exact m))]
    exact o a m
theorem Rp.snoc {N : Hp} : ∀ {ds : List D} {vs : List V} {d : D} {v : V}, Rp K N (D.row ds) vs → Rp K N d [v] → Rp K N (D.row (ds ++ [d])) (vs ++ [v])
  | [], vs, d, v, h, r => by
    have e : vs = [] := h
    rw [e]
    exact ⟨v, [], rfl, r, rfl⟩
  | a :: t, vs, d, v, ⟨x, xs, e, h1, h2⟩, r => by
    rw [e]
    exact ⟨x, xs ++ [v], rfl, h1, Rp.snoc h2 r⟩
end
end YF

/-! pieces of a line, in plain Lean: characters are numbers, a line is their list -/
namespace YF
open PySem
abbrev Cs := List Nat
def lets : Str := "abcdefghijklmnopqrstuvwxyz"
def digs : Str := "0123456789"
def cs (z : Str) : Cs := z.cps.toList
def mk (l : Cs) : Str := ⟨l.toArray⟩
theorem cs_mk (l : Cs) : cs (mk l) = l := by simp [cs, mk]
theorem mk_cs (z : Str) : mk (cs z) = z := by
  cases z with
  | mk a => simp [cs, mk]
theorem len_cs (z : Str) : z.length = (cs z).length := by
  show z.cps.size = z.cps.toList.length
  simp
theorem cs_app (a b : Str) : cs (a ++ b) = cs a ++ cs b := by
  show (a.cps ++ b.cps).toList = _
  simp [cs]
theorem str_ext {a b : Str} (h : cs a = cs b) : a = b := by rw [← mk_cs a, ← mk_cs b, h]
def inS (ch : Str) (c : Nat) : Bool := decide (c ∈ cs ch)
def rowOf (ch : Str) (l : Cs) : Cs := l.takeWhile (inS ch)
def numB (z : Str) : Option Bool :=
  if 10 < z.length then some false else if (cs z).head? = some 48 ∧ 1 < z.length then some false else (PySem.intText? z).map fun n => decide (-1000000000 ≤ n ∧ n ≤ 1000000000)
def longs : List Str := ["<=", ">="]
def signs : List Str := ["<", "=", ">", "+", "-", "*", "/", "(", ")"]
inductive One where
  | tok (k t : Str) | bad (r : Str)
def tok1 (l : Cs) : Option One :=
  match l with
  | [] => none
  | c :: r =>
    if inS lets c = true then (if 12 < (rowOf lets l).length then some (.bad "word") else some (.tok "word" (mk (rowOf lets l))))
    else if inS digs c = true then
      match numB (mk (rowOf digs l)) with
      | none => none
      | some true => some (.tok "number" (mk (rowOf digs l)))
      | some false => some (.bad "number")
    else if mk (l.take 2) ∈ longs then some (.tok "sign" (mk (l.take 2)))
    else if mk [c] ∈ signs then some (.tok "sign" (mk [c]))
    else some (.bad "character")
abbrev Tk := Str × Str × Int
inductive Scan : Nat → Cs → List Tk → Option (Int × Str) → Prop where
  | nil (a : Nat) : Scan a [] [] none
  | sp {a : Nat} {l : Cs} {ts : List Tk} {b : Option (Int × Str)} (h : Scan (a + 1) l ts b) : Scan a (32 :: l) ts b
  | tok {a : Nat} {l : Cs} {k t : Str} {ts : List Tk} {b : Option (Int × Str)} (h0 : l.head? ≠ some 32) (h1 : tok1 l = some (.tok k t)) (h2 : 0 < t.length) (h3 : t.length ≤ l.length) (h : Scan (a + t.length) (l.drop t.length) ts b) :
      Scan a l ((k, t, (a : Int) + 1) :: ts) b
  | bad {a : Nat} {l : Cs} {r : Str} (h0 : l.head? ≠ some 32) (h1 : tok1 l = some (.bad r)) : Scan a l [] (some ((a : Int) + 1, r))
/-- behind a, c would grow -/
def growsC (a : Str) (c : Nat) : Bool :=
  match (cs a).getLast? with
  | none => false
  | some e => (inS lets e && inS lets c) || (inS digs e && inS digs c) || (decide (a = "<" ∨ a = ">") && decide (c = 61))
def NoGrow (a : Str) (r : Cs) : Prop := ∀ c, r.head? = some c → growsC a c = false
def Good (k t : Str) : Prop := 0 < t.length ∧ t.length ≤ 13 ∧ (cs t).head? ≠ some 32 ∧ ∀ r, NoGrow t r → tok1 (cs t ++ r) = some (.tok k t)
def Bad (k t : Str) : Prop := 0 < t.length ∧ t.length ≤ 13 ∧ (cs t).head? ≠ some 32 ∧ ∀ r, NoGrow t r → tok1 (cs t ++ r) = some (.bad k)
/-! ### rows of characters of one kind -/
theorem takeWhile_app {p : Nat → Bool} : ∀ {l r : Cs}, (∀ c ∈ l, p c = true) → (∀ c, r.head? = some c → p c = false) → (l ++ r).takeWhile p = l
  | [], r, _, h => by
    cases r with
    | nil => rfl
    | cons c r => simp [h c rfl]
  | c :: l, r, h, k => by
    have := takeWhile_app (p := p) (l := l) (r := r) (fun d m => h d (List.mem_cons_of_mem _ m)) k
    simp [h c List.mem_cons_self, this]
theorem last_of {l : Cs} {p : Nat → Bool} (h : ∀ c ∈ l, p c = true) (n : l ≠ []) : ∃ e, l.getLast? = some e ∧ p e = true :=
  ⟨l.getLast n, List.getLast?_eq_some_getLast n, h _ (List.getLast_mem n)⟩
theorem nogrow_run {t : Str} {ch : Str} {r : Cs} (hch : ch = lets ∨ ch = digs) (h : ∀ c ∈ cs t, inS ch c = true) (n : cs t ≠ []) (g : NoGrow t r) : rowOf ch (cs t ++ r) = cs t := by
  refine takeWhile_app h fun c hc => ?_
  obtain ⟨e, e1, e2⟩ := last_of h n
  have q := g c hc
  unfold growsC at q
  rw [e1] at q
  cases hx : inS ch c with
  | false => rfl
  | true => rcases hch with rfl | rfl <;> simp [e2, hx] at q
theorem head_app {t : Str} {r : Cs} (n : cs t ≠ []) : ∃ c l, cs t = c :: l ∧ cs t ++ r = c :: (l ++ r) := by
  cases h : cs t with
  | nil => exact absurd h n
  | cons c l => exact ⟨c, l, rfl, rfl⟩
theorem digs_not : ∀ c ∈ cs digs, inS lets c = false ∧ c ≠ 32 := by decide +kernel
theorem lets_not : ∀ c ∈ cs lets, c ≠ 32 := by decide +kernel
theorem inS_mem {ch : Str} {c : Nat} (h : inS ch c = true) : c ∈ cs ch := of_decide_eq_true h
theorem ne_nil {t : Str} (h : 0 < t.length) : cs t ≠ [] := fun e => by
  rw [len_cs, e] at h
  exact absurd h (by decide)
theorem good_word {t : Str} (h : ∀ c ∈ cs t, inS lets c = true) (h0 : 0 < t.length) (h1 : t.length ≤ 12) : Good "word" t := by
  have n := ne_nil h0
  refine ⟨h0, by omega, fun e => ?_, fun r g => ?_⟩
  · exact lets_not 32 (inS_mem (h 32 (List.mem_of_mem_head? e))) rfl
  · have q := nogrow_run (.inl rfl) h n g
    obtain ⟨c, l, e1, e2⟩ := head_app (r := r) n
    unfold tok1
    rw [e2]
    dsimp only
    rw [if_pos (h c (by rw [e1]; exact List.mem_cons_self)), ← e2, q, if_neg (by rw [← len_cs]; omega), mk_cs]
theorem bad_word {t : Str} (h : ∀ c ∈ cs t, inS lets c = true) (h1 : t.length = 13) : Bad "word" t := by
  have h0 : 0 < t.length := by omega
  have n := ne_nil h0
  refine ⟨h0, by omega, fun e => ?_, fun r g => ?_⟩
  · exact lets_not 32 (inS_mem (h 32 (List.mem_of_mem_head? e))) rfl
  · have q := nogrow_run (.inl rfl) h n g
    obtain ⟨c, l, e1, e2⟩ := head_app (r := r) n
    unfold tok1
    rw [e2]
    dsimp only
    rw [if_pos (h c (by rw [e1]; exact List.mem_cons_self)), ← e2, q, if_pos (by rw [← len_cs]; omega)]
theorem num_any {t : Str} (h : ∀ c ∈ cs t, inS digs c = true) (h0 : 0 < t.length) {r : Cs} (g : NoGrow t r) : tok1 (cs t ++ r) = match numB t with
      | none => none
      | some true => some (.tok "number" t)
      | some false => some (.bad "number") := by
  have n := ne_nil h0
  have q := nogrow_run (.inr rfl) h n g
  obtain ⟨c, l, e1, e2⟩ := head_app (r := r) n
  have hc : inS digs c = true := h c (by rw [e1]; exact List.mem_cons_self)
  unfold tok1
  rw [e2]
  dsimp only
  rw [if_neg (by rw [(digs_not c (inS_mem hc)).1]; decide), if_pos hc, ← e2, q, mk_cs]
theorem good_num {t : Str} (h : ∀ c ∈ cs t, inS digs c = true) (h0 : 0 < t.length) (h1 : t.length ≤ 13) (hb : numB t = some true) : Good "number" t :=
  ⟨h0, h1, fun e => (digs_not 32 (inS_mem (h 32 (List.mem_of_mem_head? e)))).2 rfl, fun r g => by rw [num_any h h0 g, hb]⟩
theorem bad_num {t : Str} (h : ∀ c ∈ cs t, inS digs c = true) (h0 : 0 < t.length) (h1 : t.length ≤ 13) (hb : numB t = some false) : Bad "number" t :=
  ⟨h0, h1, fun e => (digs_not 32 (inS_mem (h 32 (List.mem_of_mem_head? e)))).2 rfl, fun r g => by rw [num_any h h0 g, hb]⟩
def goodNum (t : Str) : Bool := (cs t).all (inS digs) && decide (0 < t.length) && decide (t.length ≤ 13) && decide (numB t = some true)
def badNum (t : Str) : Bool := (cs t).all (inS digs) && decide (0 < t.length) && decide (t.length ≤ 13) && decide (numB t = some false)
theorem good_num' {t : Str} (h : goodNum t = true) : Good "number" t := by
  simp only [goodNum, Bool.and_eq_true, decide_eq_true_eq, List.all_eq_true] at h
  exact good_num h.1.1.1 h.1.1.2 h.1.2 h.2
theorem bad_num' {t : Str} (h : badNum t = true) : Bad "number" t := by
  simp only [badNum, Bool.and_eq_true, decide_eq_true_eq, List.all_eq_true] at h
  exact bad_num h.1.1.1 h.1.1.2 h.1.2 h.2
theorem small_nums : ∀ n : Fin 100, goodNum (Str.ofString (toString (n.val : Int))) = true := by decide +kernel
theorem large_nums : ∀ n : Fin 9, goodNum (Str.ofString (toString (1000000000 - (n.val : Int)))) = true := by decide +kernel
theorem over_nums : ∀ n : Fin 9, badNum (Str.ofString (toString (1000000001 + (n.val : Int)))) = true := by decide +kernel
/-! ### signs -/
theorem good_long {t : Str} (h : t = "<=" ∨ t = ">=") : Good "sign" t := by
  rcases h with rfl | rfl
  · exact ⟨by decide +kernel, by decide +kernel, by decide +kernel, fun r _ => by
      show tok1 (60 :: 61 :: r) = _
      unfold tok1
      dsimp only
      rw [if_neg (show ¬ inS lets 60 = true by decide +kernel), if_neg (show ¬ inS digs 60 = true by decide +kernel), if_pos (by show mk [60, 61] ∈ longs; decide +kernel)]
      rfl⟩
  · exact ⟨by decide +kernel, by decide +kernel, by decide +kernel, fun r _ => by
      show tok1 (62 :: 61 :: r) = _
      unfold tok1
      dsimp only
      rw [if_neg (show ¬ inS lets 62 = true by decide +kernel), if_neg (show ¬ inS digs 62 = true by decide +kernel), if_pos (by show mk [62, 61] ∈ longs; decide +kernel)]
      rfl⟩
theorem mk_inj {a b : Cs} (h : mk a = mk b) : a = b := by rw [← cs_mk a, ← cs_mk b, h]
theorem not_long {c : Nat} {r : Cs} (h : c = 60 ∨ c = 62 → r.head? ≠ some 61) : ¬ mk ((c :: r).take 2) ∈ longs := by
  intro m
  have m2 : mk ((c :: r).take 2) = mk [60, 61] ∨ mk ((c :: r).take 2) = mk [62, 61] := by
    rcases List.mem_cons.mp m with e | m
    · exact .inl e
    · rcases List.mem_cons.mp m with e | m
      · exact .inr e
      · cases m
  cases r with
  | nil => rcases m2 with e | e <;> (have q := mk_inj e; simp at q)
  | cons d r =>
    rcases m2 with e | e
    · have q := mk_inj e
      simp at q
      exact h (.inl q.1) (by rw [q.2]; rfl)
    · have q := mk_inj e
      simp at q
      exact h (.inr q.1) (by rw [q.2]; rfl)
def sign1 (t : Str) : Bool := decide (t ∈ signs) && decide (t.length = 1)
theorem good_sign {t : Str} {c : Nat} (e : cs t = [c]) (h : t ∈ signs) (hl : inS lets c = false) (hd : inS digs c = false) (h32 : c ≠ 32) (hg : c = 60 ∨ c = 62 → t = "<" ∨ t = ">") : Good "sign" t := by
  have l1 : t.length = 1 := by rw [len_cs, e]; rfl
  refine ⟨by omega, by omega, by rw [e]; simpa using h32, fun r g => ?_⟩
  rw [e]
  show tok1 (c :: r) = _
  unfold tok1
  have ec : mk [c] = t := by rw [← e, mk_cs]
  dsimp only
  rw [if_neg (by rw [hl]; decide), if_neg (by rw [hd]; decide), if_neg (not_long fun q => ?_), ec, if_pos h]
  · intro hr
    have q2 := g 61 hr
    unfold growsC at q2
    rw [e] at q2
    have q3 := hg q
    simp [q3] at q2
def signs11 : List Str := ["<=", ">=", "<", "=", ">", "+", "-", "*", "/", "(", ")"]
theorem good_signs : ∀ t ∈ signs11, Good "sign" t := by
  intro t m
  simp only [signs11, List.mem_cons, List.not_mem_nil, or_false] at m
  rcases m with rfl | rfl | rfl | rfl | rfl | rfl | rfl | rfl | rfl | rfl | rfl
  · exact good_long (.inl rfl)
  · exact good_long (.inr rfl)
  · exact good_sign (c := 60) rfl (by decide +kernel) (by decide +kernel) (by decide +kernel) (by decide) (fun _ => .inl rfl)
  · exact good_sign (c := 61) rfl (by decide +kernel) (by decide +kernel) (by decide +kernel) (by decide) (by decide)
  · exact good_sign (c := 62) rfl (by decide +kernel) (by decide +kernel) (by decide +kernel) (by decide) (fun _ => .inr rfl)
  · exact good_sign (c := 43) rfl (by decide +kernel) (by decide +kernel) (by decide +kernel) (by decide) (by decide)
  · exact good_sign (c := 45) rfl (by decide +kernel) (by decide +kernel) (by decide +kernel) (by decide) (by decide)
  · exact good_sign (c := 42) rfl (by decide +kernel) (by decide +kernel) (by decide +kernel) (by decide) (by decide)
  · exact good_sign (c := 47) rfl (by decide +kernel) (by decide +kernel) (by decide +kernel) (by decide) (by decide)
  · exact good_sign (c := 40) rfl (by decide +kernel) (by decide +kernel) (by decide +kernel) (by decide) (by decide)
  · exact good_sign (c := 41) rfl (by decide +kernel) (by decide +kernel) (by decide +kernel) (by decide) (by decide)
theorem bad_char {t : Str} {c : Nat} (e : cs t = [c]) (hl : inS lets c = false) (hd : inS digs c = false) (h32 : c ≠ 32) (hg : ¬ (c = 60 ∨ c = 62)) (h : ¬ mk [c] ∈ signs) : Bad "character" t := by
  have l1 : t.length = 1 := by rw [len_cs, e]; rfl
  refine ⟨by omega, by omega, by rw [e]; simpa using h32, fun r g => ?_⟩
  rw [e]
  show tok1 (c :: r) = _
  unfold tok1
  dsimp only
  rw [if_neg (by rw [hl]; decide), if_neg (by rw [hd]; decide), if_neg (not_long fun q => absurd q hg), if_neg h]
def bads7 : List Str := ["A", "_", "#", ".", "$", ":", ","]
theorem bad_chars : ∀ t ∈ bads7, Bad "character" t := by
  intro t m
  simp only [bads7, List.mem_cons, List.not_mem_nil, or_false] at m
  rcases m with rfl | rfl | rfl | rfl | rfl | rfl | rfl
  · exact bad_char (c := 65) rfl (by decide +kernel) (by decide +kernel) (by decide) (by decide) (by decide +kernel)
  · exact bad_char (c := 95) rfl (by decide +kernel) (by decide +kernel) (by decide) (by decide) (by decide +kernel)
  · exact bad_char (c := 35) rfl (by decide +kernel) (by decide +kernel) (by decide) (by decide) (by decide +kernel)
  · exact bad_char (c := 46) rfl (by decide +kernel) (by decide +kernel) (by decide) (by decide) (by decide +kernel)
  · exact bad_char (c := 36) rfl (by decide +kernel) (by decide +kernel) (by decide) (by decide) (by decide +kernel)
  · exact bad_char (c := 58) rfl (by decide +kernel) (by decide +kernel) (by decide) (by decide) (by decide +kernel)
  · exact bad_char (c := 44) rfl (by decide +kernel) (by decide +kernel) (by decide) (by decide) (by decide +kernel)
theorem bad_13 : Bad "word" "abcdefghijklm" := bad_word (by decide +kernel) (by decide +kernel)
theorem bad_00 : Bad "number" "00" := bad_num' (by decide +kernel)
theorem bad_012 : Bad "number" "012" := bad_num' (by decide +kernel)
/-! ### a line that is being written -/
def Pre (ln before : Str) (ds : List Tk) : Prop := ∀ r ts b, NoGrow before r → Scan ln.length r ts b → Scan 0 (cs ln ++ r) (ds ++ ts) b
def PreB (ln before : Str) (c : Int) (rs : Str) : Prop := ∀ r, NoGrow before r → ∃ ds, Scan 0 (cs ln ++ r) ds (some (c, rs))
theorem nogrow_empty (r : Cs) : NoGrow "" r := fun c _ => rfl
theorem pre_start : Pre "" "" [] := fun r ts b _ h => h
theorem scan_sp : ∀ (n : Nat) {a : Nat} {r : Cs} {ts : List Tk} {b : Option (Int × Str)}, Scan (a + n) r ts b → Scan a (List.replicate n 32 ++ r) ts b
  | 0, a, r, ts, b, h => h
  | n + 1, a, r, ts, b, h => .sp (scan_sp n (a := a + 1) (by rw [show a + 1 + n = a + (n + 1) by omega]; exact h))
theorem nogrow_sp (before : Str) (r : Cs) (n : Nat) (h : 0 < n) : NoGrow before (List.replicate n 32 ++ r) := fun c hc => by
  obtain ⟨m, rfl⟩ : ∃ m, n = m + 1 := ⟨n - 1, by omega⟩
  have e : c = 32 := by
    rw [List.replicate_succ] at hc
    simpa using hc.symm
  subst e
  have h1 : inS lets 32 = false := by decide +kernel
  have h2 : inS digs 32 = false := by decide +kernel
  unfold growsC
  cases (cs before).getLast? with
  | none => rfl
  | some e => simp [h1, h2]
theorem len_app' (a b : Str) : (a ++ b).length = a.length + b.length := by rw [len_cs, cs_app, List.length_append, ← len_cs, ← len_cs]
/-- spaces: nothing grows behind them -/
theorem Pre.sp {ln before sp : Str} {ds : List Tk} {n : Nat} (h : Pre ln before ds) (e : cs sp = List.replicate n 32) (hn : 0 < n) : Pre (ln ++ sp) "" ds := fun r ts b _ k => by
  have l2 : sp.length = n := by rw [len_cs, e, List.length_replicate]
  rw [cs_app, e, List.append_assoc]
  refine h _ ts b (nogrow_sp _ _ _ hn) (scan_sp n ?_)
  rw [len_app', l2] at k
  exact k
theorem PreB.sp {ln before sp rs : Str} {c : Int} {n : Nat} (h : PreB ln before c rs) (e : cs sp = List.replicate n 32) (hn : 0 < n) : PreB (ln ++ sp) "" c rs := fun r _ => by
  rw [cs_app, e, List.append_assoc]
  exact h _ (nogrow_sp _ _ _ hn)
theorem app_nil (ln : Str) {sp : Str} (e : cs sp = []) : ln ++ sp = ln := str_ext (by rw [cs_app, e, List.append_nil])
/-- a piece, where nothing grows -/
theorem drop_app (t : Str) (r : Cs) : (cs t ++ r).drop t.length = r := by rw [len_cs, List.drop_left]
theorem head_ne {t : Str} {r : Cs} (h0 : 0 < t.length) (h : (cs t).head? ≠ some 32) : (cs t ++ r).head? ≠ some 32 := by
  obtain ⟨c, l, e1, e2⟩ := head_app (r := r) (ne_nil h0)
  rw [e2]
  rw [e1] at h
  exact h
def fits (before t : Str) : Prop := ∀ c, (cs t).head? = some c → growsC before c = false
theorem fits_nogrow {before t : Str} {r : Cs} (h0 : 0 < t.length) (h : fits before t) : NoGrow before (cs t ++ r) := fun c hc => by
  obtain ⟨d, l, e1, e2⟩ := head_app (r := r) (ne_nil h0)
  rw [e2] at hc
  exact h c (by rw [e1]; exact hc)
theorem Pre.good {ln before k t : Str} {ds : List Tk} (h : Pre ln before ds) (g : Good k t) (f : fits before t) : Pre (ln ++ t) t (ds ++ [(k, t, (ln.length : Int) + 1)]) := fun r ts b n q => by
  rw [cs_app, List.append_assoc, List.append_assoc]
  refine h _ _ b (fits_nogrow g.1 f) (.tok (head_ne g.1 g.2.2.1) (g.2.2.2 r n) g.1 (by rw [List.length_append, ← len_cs]; omega) ?_)
  rw [drop_app, ← len_app']
  exact q
theorem PreB.good {ln before k t rs : Str} {c : Int} (h : PreB ln before c rs) (g0 : 0 < t.length) (f : fits before t) : PreB (ln ++ t) t c rs := fun r n => by
  rw [cs_app, List.append_assoc]
  exact h _ (fits_nogrow g0 f)
theorem Pre.bad {ln before k t : Str} {ds : List Tk} (h : Pre ln before ds) (g : Bad k t) (f : fits before t) : PreB (ln ++ t) t ((ln.length : Int) + 1) k := fun r n => by
  rw [cs_app, List.append_assoc]
  exact ⟨_, h _ [] _ (fits_nogrow g.1 f) (.bad (head_ne g.1 g.2.2.1) (g.2.2.2 r n))⟩
theorem scan_end (n a : Nat) : Scan a (List.replicate n 32) [] none := by
  have := scan_sp n (a := a) (r := []) (ts := []) (b := none) (.nil _)
  rwa [List.append_nil] at this
theorem Pre.fin {ln before sp : Str} {ds : List Tk} {n : Nat} (h : Pre ln before ds) (e : cs sp = List.replicate n 32) : Scan 0 (cs (ln ++ sp)) ds none := by
  rw [cs_app, e]
  have hn : NoGrow before (List.replicate n 32) := by
    cases n with
    | zero => exact fun c hc => by cases hc
    | succ n =>
      have := nogrow_sp before [] (n + 1) (by omega)
      rwa [List.append_nil] at this
  have := h _ [] none hn (scan_end n _)
  rwa [List.append_nil] at this
theorem PreB.fin {ln before sp rs : Str} {c : Int} {n : Nat} (h : PreB ln before c rs) (e : cs sp = List.replicate n 32) : ∃ ds, Scan 0 (cs (ln ++ sp)) ds (some (c, rs)) := by
  rw [cs_app, e]
  refine h _ ?_
  cases n with
  | zero => exact fun c hc => by cases hc
  | succ n =>
    have := nogrow_sp before [] (n + 1) (by omega)
    rwa [List.append_nil] at this
theorem spc_cs {n : Int} (h0 : 0 ≤ n) (h1 : n ≤ 3) : cs (PySem.Txt.mul " " n) = List.replicate n.toNat 32 := by
  have c : n = 0 ∨ n = 1 ∨ n = 2 ∨ n = 3 := by omega
  rcases c with rfl | rfl | rfl | rfl <;> decide +kernel
end YF

/-! list(reversed(xs)) -/
namespace YF
open PySem PySem.Spec PyProof.Rows L2
section
variable {prog : Program} {w : World} {A : Around} {E : Value → Shared → Prop} {s : Shared} {R : Result → Shared → Prop} {it l S : Addr} {items : Array Value} {c₀ : Nat}
theorem rev_into (hh : A.handled = none) (hi : s.heap.IsRevIter it l ((items.size : Int) - 1)) (hl : s.heap.IsList l items) (nl : l ≠ it) (nS : S ≠ it) (nSl : S ≠ l) (hz : items.size ≤ sizeLine)
    (hS : s.heap.get? S = some { cls := .type "list", data := .seq #[] c₀ })
    (hR : ∀ (h' : Heap) (tk : Nat) (acc : Array Value) (c' : Nat), (∀ b o, b ≠ S → b ≠ it → s.heap.get? b = some o → h'.get? b = some o) → h'.get? S = some { cls := .type "list", dict := none, data := .seq acc c', slots := #[] } →
      ItemsOf (fun i v => items[items.size - 1 - i]? = some v) acc items.size → R (.ok (.ret .none)) { s with heap := h', toks := tk }) :
    wpAny (model prog w) A.in1 (Builtin.List.listExtendWith (.ref S) (.ref it) .none)
      (fun fin s' => match fin with | .done f => R (.ok f) s' | .again c' => c'.quiet = true ∧ codeAny (model prog w) A c' R s') (fun e s' => R (.error e) s') s := by
  have walk := (Walks.listRev (prog := prog) (w := w) (A := A.in1) hh it l nl items).toS
  have out : S ∉ [it, l] := fun m => by
    rcases List.mem_cons.mp m with e | m
    · exact nS e
    · exact nSl (List.mem_singleton.mp m)
  have ty : s.TypeIs (.ref it) "list_reverseiterator" := hi.typeIs
  have differ : Builtin.List.listSameRef (.ref S) (.ref it) = false := by simp [Builtin.List.listSameRef, nS]
  unfold Builtin.List.listExtendWith
  refine wpAny_bind (wpAny_typeOf ty ?_)
  rw [if_neg (by rw [differ]; decide)]
  refine wpAny_bind (wpAny_pyIter_revIter hi (wpAny_bind (wpAny_holding ?_)))
  unfold Builtin.List.listLengthHint
  refine wpAny_bind (wpAny_specialOf ty RT.nolen_lri ?_)
  show wpAny _ A.in1 (specialOf (.ref it) (Str.ofString "__length_hint__") >>= _) _ _ s
  refine wpAny_bind (wpAny_specialOf ty RT.hint_lri ?_)
  generalize same : ("list_reverseiterator.__length_hint__" : String) = nm
  wp_delta
  have sp : splitId nm = some ("list_reverseiterator", "__length_hint__") := by subst same; decide +kernel
  rw [sp]
  subst same
  refine wpAny_bind (wpAny_isInstance (b := true) ty (by rw [isSubtype_type]; kernel_rfl) ?_)
  refine wpAny_pure ?_
  rw [if_neg (by decide)]
  have start : ((items.size : Nat) : Int) - 1 - ((0 : Nat) : Int) = (items.size : Int) - 1 := by omega
  refine wpAny_pure ⟨plainId_quiet F.plain_extend_loop _, ?_⟩
  refine codeAny_extend_loopS walk hz S out .none items.size 0 s #[] c₀ rfl (Nat.zero_le _) ⟨Nat.zero_le _, start.symm ▸ hi, hl⟩ hS (ItemsOf.nil _) fun s' acc c' mv at' got => ?_
  rw [Moved.eq_with mv]
  refine hR s'.heap s'.toks acc c' (fun b o h1 h2 e => mv.heap b o (fun m => ?_) e) at' got
  rcases List.mem_cons.mp m with q | m
  · exact h1 q
  · exact h2 (List.mem_singleton.mp m)
theorem rev_init (hh : A.handled = none) (hi : s.heap.IsRevIter it l ((items.size : Int) - 1)) (hl : s.heap.IsList l items) (nl : l ≠ it) (nS : S ≠ it) (nSl : S ≠ l) (hz : items.size ≤ sizeLine)
    (hS : s.heap.get? S = some { cls := .type "list", data := .seq #[] })
    (hR : ∀ (h' : Heap) (tk : Nat) (acc : Array Value) (c' : Nat), (∀ b o, b ≠ S → b ≠ it → s.heap.get? b = some o → h'.get? b = some o) → h'.get? S = some { cls := .type "list", dict := none, data := .seq acc c', slots := #[] } →
      ItemsOf (fun i v => items[items.size - 1 - i]? = some v) acc items.size → R (.ok (.ret .none)) { s with heap := h', toks := tk }) :
    wpAny (model prog w) A.in1 (Builtin.«list.__init__» ⟨[.ref S, .ref it], []⟩)
      (fun fin s' => match fin with | .done f => R (.ok f) s' | .again c' => c'.quiet = true ∧ codeAny (model prog w) A c' R s') (fun e s' => R (.error e) s') s := by
  show wpAny _ A.in1 (do let old ← Builtin.List.listItems (.ref S)
                         Builtin.List.listUpdate (.ref S) (fun _ => #[])
                         letGo old.toList.reverse
                         Builtin.List.listExtendWith (.ref S) (.ref it) .none) _ _ s
  refine wpAny_bind ?_
  unfold Builtin.List.listItems
  refine wpAny_bind (wpAny_seqItems hS rfl (wpAny_pure ?_))
  show wpAny _ A.in1 (updateSeq S (fun _ => #[]) >>= fun _ =>
      letGo (#[] : Array Value).toList.reverse >>= fun _ => Builtin.List.listExtendWith (.ref S) (.ref it) .none) _ _ s
  refine wpAny_bind (wpAny_updateSeq hS rfl (wpAny_bind (wpAny_letGo ?_)))
  have there := Heap.get?_update_self (Obj.mapSeq (fun _ => (#[] : Array Value))) hS rfl
  have kept : ∀ b o, b ≠ S → s.heap.get? b = some o → (s.heap.update S (Obj.mapSeq (fun _ => (#[] : Array Value)))).get? b = some o := fun b o ne e => by
    rw [Heap.get?_update_other _ _ (Ne.symm ne)]
    exact e
  refine rev_into (s := { s with heap := s.heap.update S (Obj.mapSeq (fun _ => (#[] : Array Value))) }) hh (hi.at fun o e => kept it o nS.symm e) ?_ nl nS nSl hz there fun h' tk acc c' k at' got => ?_
  · obtain ⟨o, ho, r⟩ := hl
    exact ⟨o, kept l o nSl.symm ho, r⟩
  · exact hR h' tk acc c' (fun b o n1 n2 e => k b o n1 n2 (kept b o n1 e)) at' got
theorem list_of_rev {Q : Value → Shared → Prop} (hh : A.handled = none) (hi : s.heap.IsRevIter it l ((items.size : Int) - 1)) (hl : s.heap.IsList l items) (nl : l ≠ it) (hz : items.size ≤ sizeLine)
    (hQ : ∀ (h' : Heap) (tk : Nat) (acc : Array Value) (c' : Nat), (∀ b o, b ≠ it → s.heap.get? b = some o → h'.get? b = some o) → h'.get? s.heap.objs.size = some { cls := .type "list", dict := none, data := .seq acc c', slots := #[] } →
      ItemsOf (fun i v => items[items.size - 1 - i]? = some v) acc items.size → Q (.ref s.heap.objs.size) { s with heap := h', toks := tk }) :
    wpAny (model prog w) A (call (.type "list") [.ref it]) Q E s := by
  obtain ⟨oi, ei, _⟩ := id hi
  obtain ⟨ol, el, _⟩ := id hl
  refine callType_codes (Q₁ := fun obj s₁ => obj = .ref s.heap.objs.size ∧ s₁ = { s with heap := s.heap.push { cls := .type "list", data := .seq #[] } })
    F.called_list (F.typeCall_list_1 _) F.entry_list_init (code_list_new _ ⟨rfl, rfl⟩) fun obj s₁ h₁ => ?_
  obtain ⟨rfl, rfl⟩ := h₁
  have there : (s.heap.push { cls := .type "list", data := .seq #[] }).get? s.heap.objs.size = some { cls := .type "list", data := .seq #[] } := Heap.get?_push_size _ rfl
  refine ⟨⟨_, there, rfl⟩, F.args_list_init_2 _ _, ?_⟩
  refine rev_init (A := A.in1) (s := { s with heap := s.heap.push { cls := .type "list", data := .seq #[] } }) hh (hi.at fun o e => Heap.get?_push_of_some _ e) (hl.push _) nl (Nat.ne_of_gt (Heap.lt_size ei)) (Nat.ne_of_gt (Heap.lt_size el)) hz there fun h' tk acc c' k at' got => ?_
  exact ⟨rfl, hQ h' tk acc c' (fun b o ne e => k b o (Nat.ne_of_lt (Heap.lt_size e)) ne (Heap.get?_push_of_some _ e)) at' got⟩
end
/-- list(reversed(x)), x a list: a new list -/
def tLstRev (K : PySem.W.Frag) (te : TE) : TE := fun σ H Q => te σ H fun v H1 => ∃ (a : Addr) (xs : List V), v = .ref a ∧ SqL K H1 a xs ∧ ∀ q, H1 q = none → Q (.ref q) (upd H1 q (.lst xs.reverse))
theorem pe_lstRev {X : Cx} {e : Expr} {te : TE} {p p2 pos pos2 : Pos} (hc : X.calm = true) (hg : Gl X "list") (hm : X.mg "list" = none) (hg2 : Gl X "reversed") (hm2 : X.mg "reversed" = none) (he : PE X e te)
    (hs : starEach [e] X.env = (false, eval e X.env) :: starEach [] X.env := by rfl)
    (hs2 : starEach [.Call (.Name "reversed" p2) [e] [] pos2] X.env = (false, eval (.Call (.Name "reversed" p2) [e] [] pos2) X.env) :: starEach [] X.env := by rfl) :
    PE X (.Call (.Name "list" p) [.Call (.Name "reversed" p2) [e] [] pos2] [] pos) (tLstRev X.K te) := by
  refine ⟨fun pins s σ H Q I h => ?_⟩
  refine Call_ (ld_blt I hg hm boot_list (PyProof.Rows.callWith_type1 (args_cons (Call_ (ld_blt I hg2 hm2 PyProof.Rows.boot_reversed
    (PyProof.Rows.callWith_type1 (args_cons (thn (he.run pins s σ H _ I h) fun u s1 ⟨v, H1, J, r1, q1⟩ => args_nil ?_) hs) hs rfl))) hs2) hs2 rfl))
  obtain ⟨a, xs, ev, hq, q⟩ := q1
  subst ev
  obtain rfl : u = Value.ref a := r1
  obtain ⟨its, rv, pl, hz⟩ := J.list hq
  refine call_reversed_list pl.isList (args_nil ?_)
  obtain ⟨ol, el, _⟩ := id pl.isList
  have n0 : s1.heap.get? s1.heap.objs.size = none := by
    cases e : s1.heap.get? s1.heap.objs.size with
    | none => rfl
    | some o => exact absurd (Heap.lt_size e) (Nat.lt_irrefl _)
  have hz' : its.toArray.size ≤ sizeLine := by
    rw [List.size_toArray, ← rv.length]
    exact hz
  refine list_of_rev (s := { s1 with heap := s1.heap.push (revObj a ((its.toArray.size : Int) - 1)) }) (J.ok.hd hc) ⟨_, Heap.get?_push_size _ rfl, rfl, rfl⟩ (pl.isList.push _) (Nat.ne_of_lt (Heap.lt_size el)) hz' fun h' tk acc c' k there got => ?_
  have k1 : ∀ b o, s1.heap.get? b = some o → h'.get? b = some o := fun b o e => k b o (Nat.ne_of_lt (Heap.lt_size e)) (Heap.get?_push_of_some _ e)
  have big : s1.heap.objs.size ≤ (s1.heap.push (revObj a ((its.toArray.size : Int) - 1))).objs.size := by
    rw [Heap.size_push]
    exact Nat.le_succ _
  refine ⟨.ref _, upd H1 _ (.lst xs.reverse), J.laid (t' := tk) k1 big (show ObjOk X.prog X.w _ _ _ (.lst xs.reverse) from ⟨by rw [List.length_reverse]; exact hz, acc.toList, c', RT.vals_rev rv got, ?_⟩), rfl, q _ (J.hok.fresh big)⟩
  rw [Array.toArray_toList]
  exact there
end YF

namespace K01
open PySem L2 YF
local macro_rules | `(tactic| walk_at "rd1") => `(tactic| first
  | refine ⟨_, _, rfl, rfl, ?_⟩
  | refine ⟨_, rfl, ?_⟩
  | refine ⟨(show CPow _ _ from ⟨by decide, by decide, by decide⟩), ?_⟩
  | refine ⟨(show CMul _ _ from Or.inr ⟨by decide, by decide⟩), ?_⟩
  | refine ⟨(show CDiv _ _ from ⟨by decide, by decide⟩), ?_⟩
  | refine ⟨(by show (0 : Int) < _; decide), ?_⟩
  | refine Or.inl ⟨_, rfl, ?_⟩)
local macro_rules | `(tactic| walk_at "rd") => `(tactic| repeat (walk_at "rd1"))
def topS (i : Nat) : Stmt := PySem.Challenge.pw_handshaker_k01_expressions_written_and_r.main.body.getD i (.Pass ⟨0, 0, 0, 0⟩)
abbrev s_parts_of : Stmt := topS 2
theorem sc_parts_of : FnScope ["expression", "word"] ["expression"] (defScope s_parts_of) := ⟨rfl, rfl, rfl, by decide +kernel, rfl, by decide +kernel, by decide +kernel⟩
abbrev s_lists_of : Stmt := topS 3
theorem sc_lists_of : FnScope ["statement", "word"] ["statement"] (defScope s_lists_of) := ⟨rfl, rfl, rfl, by decide +kernel, rfl, by decide +kernel, by decide +kernel⟩
abbrev s_write_expression : Stmt := topS 6
theorem sc_write_expression : FnScope ["expression", "written", "waiting", "part"] ["expression"] (defScope s_write_expression) := ⟨rfl, rfl, rfl, by decide +kernel, rfl, by decide +kernel, by decide +kernel⟩
abbrev s_pieces : Stmt := topS 7
theorem sc_pieces : FnScope ["expression", "word", "inner"] ["expression"] (defScope s_pieces) := ⟨rfl, rfl, rfl, by decide +kernel, rfl, by decide +kernel, by decide +kernel⟩
abbrev s_part : Stmt := topS 8
theorem sc_part : FnScope ["expression", "word"] ["expression"] (defScope s_part) := ⟨rfl, rfl, rfl, by decide +kernel, rfl, by decide +kernel, by decide +kernel⟩
abbrev s_read_expression : Stmt := topS 18
theorem sc_read_expression : FnScope ["line", "whole"] ["line"] (defScope s_read_expression) := ⟨rfl, rfl, rfl, by decide +kernel, rfl, by decide +kernel, by decide +kernel⟩
abbrev s_read_index : Stmt := topS 19
theorem sc_read_index : FnScope ["line"] ["line"] (defScope s_read_index) := ⟨rfl, rfl, rfl, by decide +kernel, rfl, by decide +kernel, by decide +kernel⟩
abbrev s_read_and : Stmt := topS 20
theorem sc_read_and : FnScope ["line", "whole"] ["line"] (defScope s_read_and) := ⟨rfl, rfl, rfl, by decide +kernel, rfl, by decide +kernel, by decide +kernel⟩
abbrev s_read_not : Stmt := topS 21
theorem sc_read_not : FnScope ["line", "inner"] ["line"] (defScope s_read_not) := ⟨rfl, rfl, rfl, by decide +kernel, rfl, by decide +kernel, by decide +kernel⟩
abbrev s_read_comparison : Stmt := topS 22
theorem sc_read_comparison : FnScope ["line", "first", "sign", "second"] ["line"] (defScope s_read_comparison) := ⟨rfl, rfl, rfl, by decide +kernel, rfl, by decide +kernel, by decide +kernel⟩
abbrev s_read_sum : Stmt := topS 23
theorem sc_read_sum : FnScope ["line", "whole", "word"] ["line"] (defScope s_read_sum) := ⟨rfl, rfl, rfl, by decide +kernel, rfl, by decide +kernel, by decide +kernel⟩
abbrev s_read_product : Stmt := topS 24
theorem sc_read_product : FnScope ["line", "whole", "word"] ["line"] (defScope s_read_product) := ⟨rfl, rfl, rfl, by decide +kernel, rfl, by decide +kernel, by decide +kernel⟩
abbrev s_read_sign : Stmt := topS 25
theorem sc_read_sign : FnScope ["line", "inner"] ["line"] (defScope s_read_sign) := ⟨rfl, rfl, rfl, by decide +kernel, rfl, by decide +kernel, by decide +kernel⟩
abbrev s_read_atom : Stmt := topS 26
theorem sc_read_atom : FnScope ["line", "name"] ["line"] (defScope s_read_atom) := ⟨rfl, rfl, rfl, by decide +kernel, rfl, by decide +kernel, by decide +kernel⟩
abbrev s_read_parentheses : Stmt := topS 27
theorem sc_read_parentheses : FnScope ["line", "inner"] ["line"] (defScope s_read_parentheses) := ⟨rfl, rfl, rfl, by decide +kernel, rfl, by decide +kernel, by decide +kernel⟩
abbrev s_read_cell : Stmt := topS 46
theorem sc_read_cell : FnScope ["line", "word", "name", "column", "n"] ["line", "word"] (defScope s_read_cell) := ⟨rfl, rfl, rfl, by decide +kernel, rfl, by decide +kernel, by decide +kernel⟩
abbrev s_read_plain_cell : Stmt := topS 47
theorem sc_read_plain_cell : FnScope ["line", "name", "size"] ["line", "name"] (defScope s_read_plain_cell) := ⟨rfl, rfl, rfl, by decide +kernel, rfl, by decide +kernel, by decide +kernel⟩
abbrev s_read_statements : Stmt := topS 49
theorem sc_read_statements : FnScope ["line", "word", "read"] ["line", "word"] (defScope s_read_statements) := ⟨rfl, rfl, rfl, by decide +kernel, rfl, by decide +kernel, by decide +kernel⟩
abbrev s_may_stand : Stmt := topS 50
theorem sc_may_stand : FnScope ["word", "in_block"] ["word", "in_block"] (defScope s_may_stand) := ⟨rfl, rfl, rfl, by decide +kernel, rfl, by decide +kernel, by decide +kernel⟩
abbrev s_may_declare : Stmt := topS 51
theorem sc_may_declare : FnScope ["word"] ["word"] (defScope s_may_declare) := ⟨rfl, rfl, rfl, by decide +kernel, rfl, by decide +kernel, by decide +kernel⟩
abbrev s_read_later : Stmt := topS 56
theorem sc_read_later : FnScope ["line"] ["line"] (defScope s_read_later) := ⟨rfl, rfl, rfl, by decide +kernel, rfl, by decide +kernel, by decide +kernel⟩
abbrev s_read_atomic : Stmt := topS 61
theorem sc_read_atomic : FnScope ["line", "limit"] ["line"] (defScope s_read_atomic) := ⟨rfl, rfl, rfl, by decide +kernel, rfl, by decide +kernel, by decide +kernel⟩
abbrev s_measure : Stmt := topS 78
theorem sc_measure : FnScope ["statements", "many", "lists", "repeats", "waiting", "rows", "depth", "around", "statement", "loops", "inner"] ["statements"] (defScope s_measure) := ⟨rfl, rfl, rfl, by decide +kernel, rfl, by decide +kernel, by decide +kernel⟩
abbrev s_are_within_limits : Stmt := topS 79
theorem sc_are_within_limits : FnScope ["many", "lists", "repeats"] ["many", "lists", "repeats"] (defScope s_are_within_limits) := ⟨rfl, rfl, rfl, by decide +kernel, rfl, by decide +kernel, by decide +kernel⟩
abbrev s_is_name : Stmt := topS 84
theorem sc_is_name : FnScope ["word"] ["word"] (defScope s_is_name) := ⟨rfl, rfl, rfl, by decide +kernel, rfl, by decide +kernel, by decide +kernel⟩
abbrev s_is_value : Stmt := topS 88
theorem sc_is_value : FnScope ["value"] ["value"] (defScope s_is_value) := ⟨rfl, rfl, rfl, by decide +kernel, rfl, by decide +kernel, by decide +kernel⟩
abbrev s_tokens : Stmt := topS 94
theorem sc_tokens : FnScope ["line", "number", "found", "at", "kind", "text"] ["line", "number"] (defScope s_tokens) := ⟨rfl, rfl, rfl, by decide +kernel, rfl, by decide +kernel, by decide +kernel⟩
abbrev s_token : Stmt := topS 95
theorem sc_token : FnScope ["line", "at", "number", "text"] ["line", "at", "number"] (defScope s_token) := ⟨rfl, rfl, rfl, by decide +kernel, rfl, by decide +kernel, by decide +kernel⟩
abbrev s_row : Stmt := topS 96
theorem sc_row : FnScope ["line", "at", "characters", "end"] ["line", "at", "characters"] (defScope s_row) := ⟨rfl, rfl, rfl, by decide +kernel, rfl, by decide +kernel, by decide +kernel⟩
abbrev s_is_number : Stmt := topS 97
theorem sc_is_number : FnScope ["digits"] ["digits"] (defScope s_is_number) := ⟨rfl, rfl, rfl, by decide +kernel, rfl, by decide +kernel, by decide +kernel⟩
abbrev s_Line___init__ : Stmt := inClass (topS 100) 0
theorem sc_Line___init__ : FnScope ["self", "text", "number", "cells", "variables", "in_block"] ["self", "text", "number", "cells", "variables", "in_block"] (defScope s_Line___init__) := ⟨rfl, rfl, rfl, by decide +kernel, rfl, by decide +kernel, by decide +kernel⟩
abbrev s_Line_is_over : Stmt := inClass (topS 100) 1
theorem sc_Line_is_over : FnScope ["self"] ["self"] (defScope s_Line_is_over) := ⟨rfl, rfl, rfl, by decide +kernel, rfl, by decide +kernel, by decide +kernel⟩
abbrev s_Line_text : Stmt := inClass (topS 100) 2
theorem sc_Line_text : FnScope ["self", "ahead"] ["self", "ahead"] (defScope s_Line_text) := ⟨rfl, rfl, rfl, by decide +kernel, rfl, by decide +kernel, by decide +kernel⟩
abbrev s_Line_is_number : Stmt := inClass (topS 100) 3
theorem sc_Line_is_number : FnScope ["self", "ahead", "at"] ["self", "ahead"] (defScope s_Line_is_number) := ⟨rfl, rfl, rfl, by decide +kernel, rfl, by decide +kernel, by decide +kernel⟩
abbrev s_Line_skip : Stmt := inClass (topS 100) 7
theorem sc_Line_skip : FnScope ["self"] ["self"] (defScope s_Line_skip) := ⟨rfl, rfl, rfl, by decide +kernel, rfl, by decide +kernel, by decide +kernel⟩
abbrev s_Line_take : Stmt := inClass (topS 100) 8
theorem sc_Line_take : FnScope ["self", "text"] ["self", "text"] (defScope s_Line_take) := ⟨rfl, rfl, rfl, by decide +kernel, rfl, by decide +kernel, by decide +kernel⟩
abbrev s_Line_finish : Stmt := inClass (topS 100) 9
theorem sc_Line_finish : FnScope ["self"] ["self"] (defScope s_Line_finish) := ⟨rfl, rfl, rfl, by decide +kernel, rfl, by decide +kernel, by decide +kernel⟩
abbrev s_Line_begin_part : Stmt := inClass (topS 100) 10
theorem sc_Line_begin_part : FnScope ["self"] ["self"] (defScope s_Line_begin_part) := ⟨rfl, rfl, rfl, by decide +kernel, rfl, by decide +kernel, by decide +kernel⟩
abbrev s_Line_end_part : Stmt := inClass (topS 100) 11
theorem sc_Line_end_part : FnScope ["self"] ["self"] (defScope s_Line_end_part) := ⟨rfl, rfl, rfl, by decide +kernel, rfl, by decide +kernel, by decide +kernel⟩
abbrev s_Line_take_number : Stmt := inClass (topS 100) 12
theorem sc_Line_take_number : FnScope ["self", "number"] ["self"] (defScope s_Line_take_number) := ⟨rfl, rfl, rfl, by decide +kernel, rfl, by decide +kernel, by decide +kernel⟩
abbrev s_Line_take_integer : Stmt := inClass (topS 100) 13
theorem sc_Line_take_integer : FnScope ["self"] ["self"] (defScope s_Line_take_integer) := ⟨rfl, rfl, rfl, by decide +kernel, rfl, by decide +kernel, by decide +kernel⟩
abbrev s_Line_near_name : Stmt := inClass (topS 100) 14
theorem sc_Line_near_name : FnScope ["self"] ["self"] (defScope s_Line_near_name) := ⟨rfl, rfl, rfl, by decide +kernel, rfl, by decide +kernel, by decide +kernel⟩
abbrev s_Line_take_new_name : Stmt := inClass (topS 100) 15
theorem sc_Line_take_new_name : FnScope ["self", "taken", "name"] ["self", "taken"] (defScope s_Line_take_new_name) := ⟨rfl, rfl, rfl, by decide +kernel, rfl, by decide +kernel, by decide +kernel⟩
abbrev s_Line_near_known_name : Stmt := inClass (topS 100) 16
theorem sc_Line_near_known_name : FnScope ["self", "name"] ["self"] (defScope s_Line_near_known_name) := ⟨rfl, rfl, rfl, by decide +kernel, rfl, by decide +kernel, by decide +kernel⟩
abbrev s_Thread___init__ : Stmt := inClass (topS 102) 0
theorem sc_Thread___init__ : FnScope ["self", "name", "variables", "body"] ["self", "name", "variables", "body"] (defScope s_Thread___init__) := ⟨rfl, rfl, rfl, by decide +kernel, rfl, by decide +kernel, by decide +kernel⟩
abbrev s_Program___init__ : Stmt := inClass (topS 103) 0
theorem sc_Program___init__ : FnScope ["self", "cells", "threads"] ["self", "cells", "threads"] (defScope s_Program___init__) := ⟨rfl, rfl, rfl, by decide +kernel, rfl, by decide +kernel, by decide +kernel⟩
abbrev s_read_program : Stmt := topS 106
theorem sc_read_program : FnScope ["text", "rows", "reader", "number", "row"] ["text"] (defScope s_read_program) := ⟨rfl, rfl, rfl, by decide +kernel, rfl, by decide +kernel, by decide +kernel⟩
abbrev s_OpenList___init__ : Stmt := inClass (topS 107) 0
theorem sc_OpenList___init__ : FnScope ["self", "head", "rows", "in_block", "turn", "other"] ["self", "head", "rows", "in_block", "turn", "other"] (defScope s_OpenList___init__) := ⟨rfl, rfl, rfl, by decide +kernel, rfl, by decide +kernel, by decide +kernel⟩
abbrev s_Reader___init__ : Stmt := inClass (topS 108) 0
theorem sc_Reader___init__ : FnScope ["self"] ["self"] (defScope s_Reader___init__) := ⟨rfl, rfl, rfl, by decide +kernel, rfl, by decide +kernel, by decide +kernel⟩
abbrev s_Reader_read_line : Stmt := inClass (topS 108) 1
theorem sc_Reader_read_line : FnScope ["self", "text", "number", "in_block", "line", "word"] ["self", "text", "number"] (defScope s_Reader_read_line) := ⟨rfl, rfl, rfl, by decide +kernel, rfl, by decide +kernel, by decide +kernel⟩
abbrev s_Reader_may_begin : Stmt := inClass (topS 108) 2
theorem sc_Reader_may_begin : FnScope ["self", "word", "last"] ["self", "word"] (defScope s_Reader_may_begin) := ⟨rfl, rfl, rfl, by decide +kernel, rfl, by decide +kernel, by decide +kernel⟩
abbrev s_Reader_declare_cell : Stmt := inClass (topS 108) 3
theorem sc_Reader_declare_cell : FnScope ["self", "line", "word", "cell", "n", "name", "size", "_", "many"] ["self", "line", "word"] (defScope s_Reader_declare_cell) := ⟨rfl, rfl, rfl, by decide +kernel, rfl, by decide +kernel, by decide +kernel⟩
abbrev s_Reader_begin_thread : Stmt := inClass (topS 108) 4
theorem sc_Reader_begin_thread : FnScope ["self", "line", "thread"] ["self", "line"] (defScope s_Reader_begin_thread) := ⟨rfl, rfl, rfl, by decide +kernel, rfl, by decide +kernel, by decide +kernel⟩
abbrev s_Reader_declare_local : Stmt := inClass (topS 108) 5
theorem sc_Reader_declare_local : FnScope ["self", "line", "name", "first"] ["self", "line"] (defScope s_Reader_declare_local) := ⟨rfl, rfl, rfl, by decide +kernel, rfl, by decide +kernel, by decide +kernel⟩
abbrev s_Reader_end_list : Stmt := inClass (topS 108) 6
theorem sc_Reader_end_list : FnScope ["self", "line", "last"] ["self", "line"] (defScope s_Reader_end_list) := ⟨rfl, rfl, rfl, by decide +kernel, rfl, by decide +kernel, by decide +kernel⟩
abbrev s_Reader_add_statements : Stmt := inClass (topS 108) 8
theorem sc_Reader_add_statements : FnScope ["self", "line", "word", "statements", "many", "lists", "repeats", "around", "one"] ["self", "line", "word"] (defScope s_Reader_add_statements) := ⟨rfl, rfl, rfl, by decide +kernel, rfl, by decide +kernel, by decide +kernel⟩
abbrev s_Reader_begin_list : Stmt := inClass (topS 108) 9
theorem sc_Reader_begin_list : FnScope ["self", "statement", "word", "in_block", "opened"] ["self", "statement"] (defScope s_Reader_begin_list) := ⟨rfl, rfl, rfl, by decide +kernel, rfl, by decide +kernel, by decide +kernel⟩
abbrev s_law_draws : Stmt := topS 110
theorem sc_law_draws : FnScope ["script", "draws", "cell", "number", "first", "k", "seed"] ["script"] (defScope s_law_draws) := ⟨rfl, rfl, rfl, by decide +kernel, rfl, by decide +kernel, by decide +kernel⟩
abbrev s_law_take : Stmt := topS 111
theorem sc_law_take : FnScope ["draws", "bound"] ["draws", "bound"] (defScope s_law_take) := ⟨rfl, rfl, rfl, by decide +kernel, rfl, by decide +kernel, by decide +kernel⟩
abbrev s_law_same : Stmt := topS 112
theorem sc_law_same : FnScope ["actual", "due", "k"] ["actual", "due"] (defScope s_law_same) := ⟨rfl, rfl, rfl, by decide +kernel, rfl, by decide +kernel, by decide +kernel⟩
abbrev s_law_keys : Stmt := topS 113
theorem sc_law_keys : FnScope ["words"] [] (defScope s_law_keys) := ⟨rfl, rfl, rfl, by decide +kernel, rfl, by decide +kernel, by decide +kernel⟩
abbrev s_law_names : Stmt := topS 114
theorem sc_law_names : FnScope ["draws", "many", "letters", "names", "k", "name", "j"] ["draws", "many"] (defScope s_law_names) := ⟨rfl, rfl, rfl, by decide +kernel, rfl, by decide +kernel, by decide +kernel⟩
abbrev s_law_number : Stmt := topS 115
theorem sc_law_number : FnScope ["draws"] ["draws"] (defScope s_law_number) := ⟨rfl, rfl, rfl, by decide +kernel, rfl, by decide +kernel, by decide +kernel⟩
abbrev s_law_exp : Stmt := topS 116
theorem sc_law_exp : FnScope ["draws", "variables", "cells", "depth", "kind", "name", "words", "first"] ["draws", "variables", "cells", "depth"] (defScope s_law_exp) := ⟨rfl, rfl, rfl, by decide +kernel, rfl, by decide +kernel, by decide +kernel⟩
abbrev s_law_sign : Stmt := topS 117
theorem sc_law_sign : FnScope ["word", "words"] ["word"] (defScope s_law_sign) := ⟨rfl, rfl, rfl, by decide +kernel, rfl, by decide +kernel, by decide +kernel⟩
abbrev s_law_part : Stmt := topS 118
theorem sc_law_part : FnScope ["exp"] ["exp"] (defScope s_law_part) := ⟨rfl, rfl, rfl, by decide +kernel, rfl, by decide +kernel, by decide +kernel⟩
abbrev s_law_index : Stmt := topS 119
theorem sc_law_index : FnScope ["exp"] ["exp"] (defScope s_law_index) := ⟨rfl, rfl, rfl, by decide +kernel, rfl, by decide +kernel, by decide +kernel⟩
abbrev s_law_written : Stmt := topS 120
theorem sc_law_written : FnScope ["exp", "word"] ["exp"] (defScope s_law_written) := ⟨rfl, rfl, rfl, by decide +kernel, rfl, by decide +kernel, by decide +kernel⟩
abbrev s_law_boxed : Stmt := topS 121
theorem sc_law_boxed : FnScope ["draws", "exp", "text"] ["draws", "exp"] (defScope s_law_boxed) := ⟨rfl, rfl, rfl, by decide +kernel, rfl, by decide +kernel, by decide +kernel⟩
abbrev s_law_loose : Stmt := topS 122
theorem sc_law_loose : FnScope ["draws", "exp", "word", "second", "first"] ["draws", "exp"] (defScope s_law_loose) := ⟨rfl, rfl, rfl, by decide +kernel, rfl, by decide +kernel, by decide +kernel⟩
abbrev s_law_read : Stmt := topS 123
theorem sc_law_read : FnScope ["text", "names", "variables", "lines", "name"] ["text", "names", "variables"] (defScope s_law_read) := ⟨rfl, rfl, rfl, by decide +kernel, rfl, by decide +kernel, by decide +kernel⟩
abbrev s_law : Stmt := topS 124
theorem sc_law : FnScope ["script", "draws", "names", "variables", "exp", "text", "due"] ["script"] (defScope s_law) := ⟨rfl, rfl, rfl, by decide +kernel, rfl, by decide +kernel, by decide +kernel⟩
structure Adr where
  a_parts_of : Addr
  d_parts_of : FuncData
  a_lists_of : Addr
  d_lists_of : FuncData
  a_write_expression : Addr
  d_write_expression : FuncData
  a__pieces : Addr
  d__pieces : FuncData
  a__part : Addr
  d__part : FuncData
  a_read_expression : Addr
  d_read_expression : FuncData
  a_read_index : Addr
  d_read_index : FuncData
  a__read_and : Addr
  d__read_and : FuncData
  a__read_not : Addr
  d__read_not : FuncData
  a__read_comparison : Addr
  d__read_comparison : FuncData
  a__read_sum : Addr
  d__read_sum : FuncData
  a__read_product : Addr
  d__read_product : FuncData
  a__read_sign : Addr
  d__read_sign : FuncData
  a__read_atom : Addr
  d__read_atom : FuncData
  a__read_parentheses : Addr
  d__read_parentheses : FuncData
  a_read_cell : Addr
  d_read_cell : FuncData
  a__read_plain_cell : Addr
  d__read_plain_cell : FuncData
  a_read_statements : Addr
  d_read_statements : FuncData
  a_may_stand : Addr
  d_may_stand : FuncData
  a_may_declare : Addr
  d_may_declare : FuncData
  a__read_later : Addr
  d__read_later : FuncData
  a__read_atomic : Addr
  d__read_atomic : FuncData
  a_measure : Addr
  d_measure : FuncData
  a_are_within_limits : Addr
  d_are_within_limits : FuncData
  a_is_name : Addr
  d_is_name : FuncData
  c_is_name : Addr
  t_is_name : Addr
  a_is_value : Addr
  d_is_value : FuncData
  a_tokens : Addr
  d_tokens : FuncData
  a__token : Addr
  d__token : FuncData
  a__row : Addr
  d__row : FuncData
  a__is_number : Addr
  d__is_number : FuncData
  a_Line___init__ : Addr
  d_Line___init__ : FuncData
  a_Line_is_over : Addr
  d_Line_is_over : FuncData
  a_Line_text : Addr
  d_Line_text : FuncData
  c_Line_text : Addr
  t_Line_text : Addr
  a_Line_is_number : Addr
  d_Line_is_number : FuncData
  c_Line_is_number : Addr
  t_Line_is_number : Addr
  a_Line_skip : Addr
  d_Line_skip : FuncData
  a_Line_take : Addr
  d_Line_take : FuncData
  a_Line_finish : Addr
  d_Line_finish : FuncData
  a_Line_begin_part : Addr
  d_Line_begin_part : FuncData
  a_Line_end_part : Addr
  d_Line_end_part : FuncData
  a_Line_take_number : Addr
  d_Line_take_number : FuncData
  a_Line_take_integer : Addr
  d_Line_take_integer : FuncData
  a_Line_near_name : Addr
  d_Line_near_name : FuncData
  a_Line_take_new_name : Addr
  d_Line_take_new_name : FuncData
  a_Line_near_known_name : Addr
  d_Line_near_known_name : FuncData
  a_Thread___init__ : Addr
  d_Thread___init__ : FuncData
  a_Program___init__ : Addr
  d_Program___init__ : FuncData
  a_read_program : Addr
  d_read_program : FuncData
  a_OpenList___init__ : Addr
  d_OpenList___init__ : FuncData
  a_Reader___init__ : Addr
  d_Reader___init__ : FuncData
  a_Reader_read_line : Addr
  d_Reader_read_line : FuncData
  a_Reader_may_begin : Addr
  d_Reader_may_begin : FuncData
  a_Reader_declare_cell : Addr
  d_Reader_declare_cell : FuncData
  a_Reader_begin_thread : Addr
  d_Reader_begin_thread : FuncData
  a_Reader_declare_local : Addr
  d_Reader_declare_local : FuncData
  a_Reader_end_list : Addr
  d_Reader_end_list : FuncData
  a_Reader_add_statements : Addr
  d_Reader_add_statements : FuncData
  a_Reader_begin_list : Addr
  d_Reader_begin_list : FuncData
  a__law_draws : Addr
  d__law_draws : FuncData
  a__law_take : Addr
  d__law_take : FuncData
  a__law_same : Addr
  d__law_same : FuncData
  a__law_keys : Addr
  d__law_keys : FuncData
  a__law_names : Addr
  d__law_names : FuncData
  a__law_number : Addr
  d__law_number : FuncData
  a__law_exp : Addr
  d__law_exp : FuncData
  a__law_sign : Addr
  d__law_sign : FuncData
  a__law_part : Addr
  d__law_part : FuncData
  a__law_index : Addr
  d__law_index : FuncData
  a__law_written : Addr
  d__law_written : FuncData
  a__law_boxed : Addr
  d__law_boxed : FuncData
  a__law_loose : Addr
  d__law_loose : FuncData
  a__law_read : Addr
  d__law_read : FuncData
  a_law : Addr
  d_law : FuncData
  a_SIGNS : Addr
  a_LONG_SIGNS : Addr
  a_KEY_WORDS : Addr
  a_COMPARISONS : Addr
  a_SUMS : Addr
  a_PRODUCTS : Addr
  a_THREAD_FORMS : Addr
  a_BLOCK_FORMS : Addr
  a_LEAVES : Addr
  a_OPERATORS : Addr
  a_Line : Addr
  a_Thread : Addr
  a_Program : Addr
  a_OpenList : Addr
  a_Reader : Addr
  t_LETTERS : Tok
  t_DIGITS : Tok
  t_LONGEST : Tok
  t_MOST_DIGITS : Tok
  t_LEAST : Tok
  t_GREATEST : Tok
  t_MOST_THREADS : Tok
  t_MOST_CELLS : Tok
  t_MOST_LOCALS : Tok
  t_MOST_STATEMENTS : Tok
  t_MOST_LISTS : Tok
  t_MOST_REPEATS : Tok
  t_MOST_OPEN : Tok
  t_MOST_CHARACTERS : Tok
structure Txt (K : PySem.W.Frag) (mg : Str → Option Value) (A : Adr) : Prop where
  F_parts_of : Fun K "parts_of" "parts_of" s_parts_of A.a_parts_of A.d_parts_of
  b_parts_of : Binds K A.d_parts_of ["expression"] []
  g_parts_of : mg "parts_of" = some (.ref A.a_parts_of)
  F_lists_of : Fun K "lists_of" "lists_of" s_lists_of A.a_lists_of A.d_lists_of
  b_lists_of : Binds K A.d_lists_of ["statement"] []
  g_lists_of : mg "lists_of" = some (.ref A.a_lists_of)
  F_write_expression : Fun K "write_expression" "write_expression" s_write_expression A.a_write_expression A.d_write_expression
  b_write_expression : Binds K A.d_write_expression ["expression"] []
  g_write_expression : mg "write_expression" = some (.ref A.a_write_expression)
  F__pieces : Fun K "_pieces" "_pieces" s_pieces A.a__pieces A.d__pieces
  b__pieces : Binds K A.d__pieces ["expression"] []
  g__pieces : mg "_pieces" = some (.ref A.a__pieces)
  F__part : Fun K "_part" "_part" s_part A.a__part A.d__part
  b__part : Binds K A.d__part ["expression"] []
  g__part : mg "_part" = some (.ref A.a__part)
  F_read_expression : Fun K "read_expression" "read_expression" s_read_expression A.a_read_expression A.d_read_expression
  b_read_expression : Binds K A.d_read_expression ["line"] []
  g_read_expression : mg "read_expression" = some (.ref A.a_read_expression)
  F_read_index : Fun K "read_index" "read_index" s_read_index A.a_read_index A.d_read_index
  b_read_index : Binds K A.d_read_index ["line"] []
  g_read_index : mg "read_index" = some (.ref A.a_read_index)
  F__read_and : Fun K "_read_and" "_read_and" s_read_and A.a__read_and A.d__read_and
  b__read_and : Binds K A.d__read_and ["line"] []
  g__read_and : mg "_read_and" = some (.ref A.a__read_and)
  F__read_not : Fun K "_read_not" "_read_not" s_read_not A.a__read_not A.d__read_not
  b__read_not : Binds K A.d__read_not ["line"] []
  g__read_not : mg "_read_not" = some (.ref A.a__read_not)
  F__read_comparison : Fun K "_read_comparison" "_read_comparison" s_read_comparison A.a__read_comparison A.d__read_comparison
  b__read_comparison : Binds K A.d__read_comparison ["line"] []
  g__read_comparison : mg "_read_comparison" = some (.ref A.a__read_comparison)
  F__read_sum : Fun K "_read_sum" "_read_sum" s_read_sum A.a__read_sum A.d__read_sum
  b__read_sum : Binds K A.d__read_sum ["line"] []
  g__read_sum : mg "_read_sum" = some (.ref A.a__read_sum)
  F__read_product : Fun K "_read_product" "_read_product" s_read_product A.a__read_product A.d__read_product
  b__read_product : Binds K A.d__read_product ["line"] []
  g__read_product : mg "_read_product" = some (.ref A.a__read_product)
  F__read_sign : Fun K "_read_sign" "_read_sign" s_read_sign A.a__read_sign A.d__read_sign
  b__read_sign : Binds K A.d__read_sign ["line"] []
  g__read_sign : mg "_read_sign" = some (.ref A.a__read_sign)
  F__read_atom : Fun K "_read_atom" "_read_atom" s_read_atom A.a__read_atom A.d__read_atom
  b__read_atom : Binds K A.d__read_atom ["line"] []
  g__read_atom : mg "_read_atom" = some (.ref A.a__read_atom)
  F__read_parentheses : Fun K "_read_parentheses" "_read_parentheses" s_read_parentheses A.a__read_parentheses A.d__read_parentheses
  b__read_parentheses : Binds K A.d__read_parentheses ["line"] []
  g__read_parentheses : mg "_read_parentheses" = some (.ref A.a__read_parentheses)
  F_read_cell : Fun K "read_cell" "read_cell" s_read_cell A.a_read_cell A.d_read_cell
  b_read_cell : Binds K A.d_read_cell ["line", "word"] []
  g_read_cell : mg "read_cell" = some (.ref A.a_read_cell)
  F__read_plain_cell : Fun K "_read_plain_cell" "_read_plain_cell" s_read_plain_cell A.a__read_plain_cell A.d__read_plain_cell
  b__read_plain_cell : Binds K A.d__read_plain_cell ["line", "name"] []
  g__read_plain_cell : mg "_read_plain_cell" = some (.ref A.a__read_plain_cell)
  F_read_statements : Fun K "read_statements" "read_statements" s_read_statements A.a_read_statements A.d_read_statements
  b_read_statements : Binds K A.d_read_statements ["line", "word"] []
  g_read_statements : mg "read_statements" = some (.ref A.a_read_statements)
  F_may_stand : Fun K "may_stand" "may_stand" s_may_stand A.a_may_stand A.d_may_stand
  b_may_stand : Binds K A.d_may_stand ["word", "in_block"] []
  g_may_stand : mg "may_stand" = some (.ref A.a_may_stand)
  F_may_declare : Fun K "may_declare" "may_declare" s_may_declare A.a_may_declare A.d_may_declare
  b_may_declare : Binds K A.d_may_declare ["word"] []
  g_may_declare : mg "may_declare" = some (.ref A.a_may_declare)
  F__read_later : Fun K "_read_later" "_read_later" s_read_later A.a__read_later A.d__read_later
  b__read_later : Binds K A.d__read_later ["line"] []
  g__read_later : mg "_read_later" = some (.ref A.a__read_later)
  F__read_atomic : Fun K "_read_atomic" "_read_atomic" s_read_atomic A.a__read_atomic A.d__read_atomic
  b__read_atomic : Binds K A.d__read_atomic ["line"] []
  g__read_atomic : mg "_read_atomic" = some (.ref A.a__read_atomic)
  F_measure : Fun K "measure" "measure" s_measure A.a_measure A.d_measure
  b_measure : Binds K A.d_measure ["statements"] []
  g_measure : mg "measure" = some (.ref A.a_measure)
  F_are_within_limits : Fun K "are_within_limits" "are_within_limits" s_are_within_limits A.a_are_within_limits A.d_are_within_limits
  b_are_within_limits : Binds K A.d_are_within_limits ["many", "lists", "repeats"] []
  g_are_within_limits : mg "are_within_limits" = some (.ref A.a_are_within_limits)
  L_is_name : ∃ oc od dV kV doc pm an ct osl, A.d_is_name = PySem.W.fnOf "is_name" "is_name" (defArgs s_is_name) (defBody s_is_name) (defScope s_is_name) dV kV doc pm an (.ref A.c_is_name) ct ∧ K.lookup A.a_is_name = some ⟨oc, od, .func A.d_is_name, osl⟩
  C_is_name : PySem.W.codeIn K (.ref A.c_is_name) "is_name" = true
  kp_is_name : PySem.W.keepIn K (.ref A.a_is_name) = true
  b_is_name : Binds K A.d_is_name ["word"] []
  g_is_name : mg "is_name" = some (.ref A.a_is_name)
  F_is_value : Fun K "is_value" "is_value" s_is_value A.a_is_value A.d_is_value
  b_is_value : Binds K A.d_is_value ["value"] []
  g_is_value : mg "is_value" = some (.ref A.a_is_value)
  F_tokens : Fun K "tokens" "tokens" s_tokens A.a_tokens A.d_tokens
  b_tokens : Binds K A.d_tokens ["line", "number"] []
  g_tokens : mg "tokens" = some (.ref A.a_tokens)
  F__token : Fun K "_token" "_token" s_token A.a__token A.d__token
  b__token : Binds K A.d__token ["line", "at", "number"] []
  g__token : mg "_token" = some (.ref A.a__token)
  F__row : Fun K "_row" "_row" s_row A.a__row A.d__row
  b__row : Binds K A.d__row ["line", "at", "characters"] []
  g__row : mg "_row" = some (.ref A.a__row)
  F__is_number : Fun K "_is_number" "_is_number" s_is_number A.a__is_number A.d__is_number
  b__is_number : Binds K A.d__is_number ["digits"] []
  g__is_number : mg "_is_number" = some (.ref A.a__is_number)
  F_Line___init__ : Fun K "__init__" "Line.__init__" s_Line___init__ A.a_Line___init__ A.d_Line___init__
  b_Line___init__ : Binds K A.d_Line___init__ ["self", "text", "number", "cells", "variables", "in_block"] []
  mk_Line : Mk K A.a_Line A.a_Line___init__
  F_Line_is_over : Fun K "is_over" "Line.is_over" s_Line_is_over A.a_Line_is_over A.d_Line_is_over
  b_Line_is_over : Binds K A.d_Line_is_over ["self"] []
  m_Line_is_over : Meth K A.a_Line "is_over" A.a_Line_is_over
  K_Line_text : FunD K "text" "Line.text" (defArgs s_Line_text) (defBody s_Line_text) (defScope s_Line_text) [.int 0] [] A.a_Line_text A.d_Line_text
  m_Line_text : Meth K A.a_Line "text" A.a_Line_text
  K_Line_is_number : FunD K "is_number" "Line.is_number" (defArgs s_Line_is_number) (defBody s_Line_is_number) (defScope s_Line_is_number) [.int 0] [] A.a_Line_is_number A.d_Line_is_number
  m_Line_is_number : Meth K A.a_Line "is_number" A.a_Line_is_number
  F_Line_skip : Fun K "skip" "Line.skip" s_Line_skip A.a_Line_skip A.d_Line_skip
  b_Line_skip : Binds K A.d_Line_skip ["self"] []
  m_Line_skip : Meth K A.a_Line "skip" A.a_Line_skip
  F_Line_take : Fun K "take" "Line.take" s_Line_take A.a_Line_take A.d_Line_take
  b_Line_take : Binds K A.d_Line_take ["self", "text"] []
  m_Line_take : Meth K A.a_Line "take" A.a_Line_take
  F_Line_finish : Fun K "finish" "Line.finish" s_Line_finish A.a_Line_finish A.d_Line_finish
  b_Line_finish : Binds K A.d_Line_finish ["self"] []
  m_Line_finish : Meth K A.a_Line "finish" A.a_Line_finish
  F_Line_begin_part : Fun K "begin_part" "Line.begin_part" s_Line_begin_part A.a_Line_begin_part A.d_Line_begin_part
  b_Line_begin_part : Binds K A.d_Line_begin_part ["self"] []
  m_Line_begin_part : Meth K A.a_Line "begin_part" A.a_Line_begin_part
  F_Line_end_part : Fun K "end_part" "Line.end_part" s_Line_end_part A.a_Line_end_part A.d_Line_end_part
  b_Line_end_part : Binds K A.d_Line_end_part ["self"] []
  m_Line_end_part : Meth K A.a_Line "end_part" A.a_Line_end_part
  F_Line_take_number : Fun K "take_number" "Line.take_number" s_Line_take_number A.a_Line_take_number A.d_Line_take_number
  b_Line_take_number : Binds K A.d_Line_take_number ["self"] []
  m_Line_take_number : Meth K A.a_Line "take_number" A.a_Line_take_number
  F_Line_take_integer : Fun K "take_integer" "Line.take_integer" s_Line_take_integer A.a_Line_take_integer A.d_Line_take_integer
  b_Line_take_integer : Binds K A.d_Line_take_integer ["self"] []
  m_Line_take_integer : Meth K A.a_Line "take_integer" A.a_Line_take_integer
  F_Line_near_name : Fun K "near_name" "Line.near_name" s_Line_near_name A.a_Line_near_name A.d_Line_near_name
  b_Line_near_name : Binds K A.d_Line_near_name ["self"] []
  m_Line_near_name : Meth K A.a_Line "near_name" A.a_Line_near_name
  F_Line_take_new_name : Fun K "take_new_name" "Line.take_new_name" s_Line_take_new_name A.a_Line_take_new_name A.d_Line_take_new_name
  b_Line_take_new_name : Binds K A.d_Line_take_new_name ["self", "taken"] []
  m_Line_take_new_name : Meth K A.a_Line "take_new_name" A.a_Line_take_new_name
  F_Line_near_known_name : Fun K "near_known_name" "Line.near_known_name" s_Line_near_known_name A.a_Line_near_known_name A.d_Line_near_known_name
  b_Line_near_known_name : Binds K A.d_Line_near_known_name ["self"] []
  m_Line_near_known_name : Meth K A.a_Line "near_known_name" A.a_Line_near_known_name
  F_Thread___init__ : Fun K "__init__" "Thread.__init__" s_Thread___init__ A.a_Thread___init__ A.d_Thread___init__
  b_Thread___init__ : Binds K A.d_Thread___init__ ["self", "name", "variables", "body"] []
  mk_Thread : Mk K A.a_Thread A.a_Thread___init__
  F_Program___init__ : Fun K "__init__" "Program.__init__" s_Program___init__ A.a_Program___init__ A.d_Program___init__
  b_Program___init__ : Binds K A.d_Program___init__ ["self", "cells", "threads"] []
  mk_Program : Mk K A.a_Program A.a_Program___init__
  F_read_program : Fun K "read_program" "read_program" s_read_program A.a_read_program A.d_read_program
  b_read_program : Binds K A.d_read_program ["text"] []
  g_read_program : mg "read_program" = some (.ref A.a_read_program)
  K_OpenList___init__ : FunD K "__init__" "OpenList.__init__" (defArgs s_OpenList___init__) (defBody s_OpenList___init__) (defScope s_OpenList___init__) [.non, .non] [] A.a_OpenList___init__ A.d_OpenList___init__
  mk_OpenList : Mk K A.a_OpenList A.a_OpenList___init__
  F_Reader___init__ : Fun K "__init__" "Reader.__init__" s_Reader___init__ A.a_Reader___init__ A.d_Reader___init__
  b_Reader___init__ : Binds K A.d_Reader___init__ ["self"] []
  mk_Reader : Mk K A.a_Reader A.a_Reader___init__
  F_Reader_read_line : Fun K "read_line" "Reader.read_line" s_Reader_read_line A.a_Reader_read_line A.d_Reader_read_line
  b_Reader_read_line : Binds K A.d_Reader_read_line ["self", "text", "number"] []
  m_Reader_read_line : Meth K A.a_Reader "read_line" A.a_Reader_read_line
  F_Reader_may_begin : Fun K "may_begin" "Reader.may_begin" s_Reader_may_begin A.a_Reader_may_begin A.d_Reader_may_begin
  b_Reader_may_begin : Binds K A.d_Reader_may_begin ["self", "word"] []
  m_Reader_may_begin : Meth K A.a_Reader "may_begin" A.a_Reader_may_begin
  F_Reader_declare_cell : Fun K "declare_cell" "Reader.declare_cell" s_Reader_declare_cell A.a_Reader_declare_cell A.d_Reader_declare_cell
  b_Reader_declare_cell : Binds K A.d_Reader_declare_cell ["self", "line", "word"] []
  m_Reader_declare_cell : Meth K A.a_Reader "declare_cell" A.a_Reader_declare_cell
  F_Reader_begin_thread : Fun K "begin_thread" "Reader.begin_thread" s_Reader_begin_thread A.a_Reader_begin_thread A.d_Reader_begin_thread
  b_Reader_begin_thread : Binds K A.d_Reader_begin_thread ["self", "line"] []
  m_Reader_begin_thread : Meth K A.a_Reader "begin_thread" A.a_Reader_begin_thread
  F_Reader_declare_local : Fun K "declare_local" "Reader.declare_local" s_Reader_declare_local A.a_Reader_declare_local A.d_Reader_declare_local
  b_Reader_declare_local : Binds K A.d_Reader_declare_local ["self", "line"] []
  m_Reader_declare_local : Meth K A.a_Reader "declare_local" A.a_Reader_declare_local
  F_Reader_end_list : Fun K "end_list" "Reader.end_list" s_Reader_end_list A.a_Reader_end_list A.d_Reader_end_list
  b_Reader_end_list : Binds K A.d_Reader_end_list ["self", "line"] []
  m_Reader_end_list : Meth K A.a_Reader "end_list" A.a_Reader_end_list
  F_Reader_add_statements : Fun K "add_statements" "Reader.add_statements" s_Reader_add_statements A.a_Reader_add_statements A.d_Reader_add_statements
  b_Reader_add_statements : Binds K A.d_Reader_add_statements ["self", "line", "word"] []
  m_Reader_add_statements : Meth K A.a_Reader "add_statements" A.a_Reader_add_statements
  F_Reader_begin_list : Fun K "begin_list" "Reader.begin_list" s_Reader_begin_list A.a_Reader_begin_list A.d_Reader_begin_list
  b_Reader_begin_list : Binds K A.d_Reader_begin_list ["self", "statement"] []
  m_Reader_begin_list : Meth K A.a_Reader "begin_list" A.a_Reader_begin_list
  F__law_draws : Fun K "_law_draws" "_law_draws" s_law_draws A.a__law_draws A.d__law_draws
  b__law_draws : Binds K A.d__law_draws ["script"] []
  g__law_draws : mg "_law_draws" = some (.ref A.a__law_draws)
  F__law_take : Fun K "_law_take" "_law_take" s_law_take A.a__law_take A.d__law_take
  b__law_take : Binds K A.d__law_take ["draws", "bound"] []
  g__law_take : mg "_law_take" = some (.ref A.a__law_take)
  F__law_same : Fun K "_law_same" "_law_same" s_law_same A.a__law_same A.d__law_same
  b__law_same : Binds K A.d__law_same ["actual", "due"] []
  g__law_same : mg "_law_same" = some (.ref A.a__law_same)
  F__law_keys : Fun K "_law_keys" "_law_keys" s_law_keys A.a__law_keys A.d__law_keys
  b__law_keys : Binds K A.d__law_keys [] []
  g__law_keys : mg "_law_keys" = some (.ref A.a__law_keys)
  F__law_names : Fun K "_law_names" "_law_names" s_law_names A.a__law_names A.d__law_names
  b__law_names : Binds K A.d__law_names ["draws", "many"] []
  g__law_names : mg "_law_names" = some (.ref A.a__law_names)
  F__law_number : Fun K "_law_number" "_law_number" s_law_number A.a__law_number A.d__law_number
  b__law_number : Binds K A.d__law_number ["draws"] []
  g__law_number : mg "_law_number" = some (.ref A.a__law_number)
  F__law_exp : Fun K "_law_exp" "_law_exp" s_law_exp A.a__law_exp A.d__law_exp
  b__law_exp : Binds K A.d__law_exp ["draws", "variables", "cells", "depth"] []
  g__law_exp : mg "_law_exp" = some (.ref A.a__law_exp)
  F__law_sign : Fun K "_law_sign" "_law_sign" s_law_sign A.a__law_sign A.d__law_sign
  b__law_sign : Binds K A.d__law_sign ["word"] []
  g__law_sign : mg "_law_sign" = some (.ref A.a__law_sign)
  F__law_part : Fun K "_law_part" "_law_part" s_law_part A.a__law_part A.d__law_part
  b__law_part : Binds K A.d__law_part ["exp"] []
  g__law_part : mg "_law_part" = some (.ref A.a__law_part)
  F__law_index : Fun K "_law_index" "_law_index" s_law_index A.a__law_index A.d__law_index
  b__law_index : Binds K A.d__law_index ["exp"] []
  g__law_index : mg "_law_index" = some (.ref A.a__law_index)
  F__law_written : Fun K "_law_written" "_law_written" s_law_written A.a__law_written A.d__law_written
  b__law_written : Binds K A.d__law_written ["exp"] []
  g__law_written : mg "_law_written" = some (.ref A.a__law_written)
  F__law_boxed : Fun K "_law_boxed" "_law_boxed" s_law_boxed A.a__law_boxed A.d__law_boxed
  b__law_boxed : Binds K A.d__law_boxed ["draws", "exp"] []
  g__law_boxed : mg "_law_boxed" = some (.ref A.a__law_boxed)
  F__law_loose : Fun K "_law_loose" "_law_loose" s_law_loose A.a__law_loose A.d__law_loose
  b__law_loose : Binds K A.d__law_loose ["draws", "exp"] []
  g__law_loose : mg "_law_loose" = some (.ref A.a__law_loose)
  F__law_read : Fun K "_law_read" "_law_read" s_law_read A.a__law_read A.d__law_read
  b__law_read : Binds K A.d__law_read ["text", "names", "variables"] []
  g__law_read : mg "_law_read" = some (.ref A.a__law_read)
  F_law : Fun K "law" "law" s_law A.a_law A.d_law
  b_law : Binds K A.d_law ["script"] []
  g_law : mg "law" = some (.ref A.a_law)
  cl_Line : Cls K A.a_Line
  g_Line : mg "Line" = some (.ref A.a_Line)
  no_Line_number : NoAttr K A.a_Line "number"
  no_Line_found : NoAttr K A.a_Line "found"
  no_Line_behind : NoAttr K A.a_Line "behind"
  no_Line_place : NoAttr K A.a_Line "place"
  no_Line_many_open : NoAttr K A.a_Line "many_open"
  no_Line_cells : NoAttr K A.a_Line "cells"
  no_Line_variables : NoAttr K A.a_Line "variables"
  no_Line_in_block : NoAttr K A.a_Line "in_block"
  cl_Thread : Cls K A.a_Thread
  g_Thread : mg "Thread" = some (.ref A.a_Thread)
  no_Thread_name : NoAttr K A.a_Thread "name"
  no_Thread_variables : NoAttr K A.a_Thread "variables"
  no_Thread_body : NoAttr K A.a_Thread "body"
  cl_Program : Cls K A.a_Program
  g_Program : mg "Program" = some (.ref A.a_Program)
  no_Program_cells : NoAttr K A.a_Program "cells"
  no_Program_threads : NoAttr K A.a_Program "threads"
  cl_OpenList : Cls K A.a_OpenList
  g_OpenList : mg "OpenList" = some (.ref A.a_OpenList)
  no_OpenList_head : NoAttr K A.a_OpenList "head"
  no_OpenList_rows : NoAttr K A.a_OpenList "rows"
  no_OpenList_in_block : NoAttr K A.a_OpenList "in_block"
  no_OpenList_turn : NoAttr K A.a_OpenList "turn"
  no_OpenList_other : NoAttr K A.a_OpenList "other"
  cl_Reader : Cls K A.a_Reader
  g_Reader : mg "Reader" = some (.ref A.a_Reader)
  no_Reader_cells : NoAttr K A.a_Reader "cells"
  no_Reader_declared : NoAttr K A.a_Reader "declared"
  no_Reader_threads : NoAttr K A.a_Reader "threads"
  no_Reader_name : NoAttr K A.a_Reader "name"
  no_Reader_variables : NoAttr K A.a_Reader "variables"
  no_Reader_statements : NoAttr K A.a_Reader "statements"
  no_Reader_lists : NoAttr K A.a_Reader "lists"
  n_len : mg "len" = none
  n_abs : mg "abs" = none
  n_int : mg "int" = none
  n_list : mg "list" = none
  n_reversed : mg "reversed" = none
  n_range : mg "range" = none
  n_isinstance : mg "isinstance" = none
  n_tuple : mg "tuple" = none
  n_str : mg "str" = none
  n_bool : mg "bool" = none
  n_max : mg "max" = none
  n_sum : mg "sum" = none
  n_enumerate : mg "enumerate" = none
  n_all : mg "all" = none
  g_LETTERS : mg "LETTERS" = some (.str "abcdefghijklmnopqrstuvwxyz" A.t_LETTERS)
  g_DIGITS : mg "DIGITS" = some (.str "0123456789" A.t_DIGITS)
  g_LONGEST : mg "LONGEST" = some (.int 12 A.t_LONGEST)
  g_MOST_DIGITS : mg "MOST_DIGITS" = some (.int 10 A.t_MOST_DIGITS)
  g_LEAST : mg "LEAST" = some (.int (-1000000000) A.t_LEAST)
  g_GREATEST : mg "GREATEST" = some (.int 1000000000 A.t_GREATEST)
  g_MOST_THREADS : mg "MOST_THREADS" = some (.int 6 A.t_MOST_THREADS)
  g_MOST_CELLS : mg "MOST_CELLS" = some (.int 24 A.t_MOST_CELLS)
  g_MOST_LOCALS : mg "MOST_LOCALS" = some (.int 10 A.t_MOST_LOCALS)
  g_MOST_STATEMENTS : mg "MOST_STATEMENTS" = some (.int 80 A.t_MOST_STATEMENTS)
  g_MOST_LISTS : mg "MOST_LISTS" = some (.int 6 A.t_MOST_LISTS)
  g_MOST_REPEATS : mg "MOST_REPEATS" = some (.int 2 A.t_MOST_REPEATS)
  g_MOST_OPEN : mg "MOST_OPEN" = some (.int 20 A.t_MOST_OPEN)
  g_MOST_CHARACTERS : mg "MOST_CHARACTERS" = some (.int 20000 A.t_MOST_CHARACTERS)
  g_SIGNS : mg "SIGNS" = some (.ref A.a_SIGNS)
  g_LONG_SIGNS : mg "LONG_SIGNS" = some (.ref A.a_LONG_SIGNS)
  g_KEY_WORDS : mg "KEY_WORDS" = some (.ref A.a_KEY_WORDS)
  z_SIGNS : ∀ H, SqT K H A.a_SIGNS [.str "<", .str "=", .str ">", .str "+", .str "-", .str "*", .str "/", .str "(", .str ")"]
  z_LONG_SIGNS : ∀ H, SqT K H A.a_LONG_SIGNS [.str "<=", .str ">="]
  z_KEY_WORDS : ∀ H, SqT K H A.a_KEY_WORDS [.str "cell", .str "thread", .str "local", .str "set", .str "put", .str "say", .str "later", .str "pause", .str "if", .str "else", .str "end", .str "repeat", .str "atomic", .str "within", .str "late", .str "choose", .str "or", .str "and", .str "not", .str "rest", .str "retry", .str "undo", .str "semaphore", .str "barrier", .str "channel", .str "exchange", .str "take", .str "give", .str "meet", .str "send", .str "receive", .str "swap"]
  g_COMPARISONS : mg "COMPARISONS" = some (.ref A.a_COMPARISONS)
  g_SUMS : mg "SUMS" = some (.ref A.a_SUMS)
  g_PRODUCTS : mg "PRODUCTS" = some (.ref A.a_PRODUCTS)
  g_THREAD_FORMS : mg "THREAD_FORMS" = some (.ref A.a_THREAD_FORMS)
  g_BLOCK_FORMS : mg "BLOCK_FORMS" = some (.ref A.a_BLOCK_FORMS)
  g_LEAVES : mg "LEAVES" = some (.ref A.a_LEAVES)
  z_LEAVES : ∀ H, SqT K H A.a_LEAVES [.str "number", .str "local", .str "slot"]
  g_OPERATORS : mg "OPERATORS" = some (.ref A.a_OPERATORS)
section
variable {P : Program} {w : World} {K : PySem.W.Frag} {mg : Str → Option Value} {base : Heap} {A : Adr}
theorem set_sl {σ σ' : L2.St} {t : TS} {E : Ends} {H : Hp} (e : σ = σ') (h : t E σ' H) : t E σ H := by
  rw [e]
  exact h
theorem ite3 {b : Bool} {p q : Prop} (h1 : b = true → p) (h2 : b = false → q) : if b = true then p else q := by
  cases b
  · exact h2 rfl
  · exact h1 rfl
theorem asg_call {σ : L2.St} {H : Hp} {ta : TA} {vs : List V} {sp : Sp} {E : XK} {D : Ends} {rest : TS} {i : Nat} (ha : Ta ta σ H vs) (h : sp vs H (fun v H' => rest D (σ.set i (some v)) H') E) : tSeq (tAsg (tCall sp [] E ta) (gName i)) rest D σ H :=
  ha _ (by
    show sp (vs ++ []) H _ E
    rw [List.append_nil]
    exact h)
/-- a row that is never reached -/
theorem ps_dead {X : Cx} {st : Stmt} : PS X st (fun _ _ _ => False) := ⟨fun _ _ _ _ _ _ h => h.elim⟩
/-! ### draws -/
def DrawAt (H0 H : Hp) (p : Addr) (n : Nat) : Prop := Same H0 H ∧ H0 p = none ∧ ∃ ms : List Int, H p = some (.lst (ms.map V.int)) ∧ ms.length ≤ n
theorem DrawAt.add {H0 H : Hp} {p : Addr} {n : Nat} (h : DrawAt H0 H p n) (z : Int) {R : Hp → Prop} (hn : n < 100000) (k : ∀ H', DrawAt H0 H' p (n + 1) → R H') :
    ∃ l xs y, V.ref p = .ref l ∧ [V.int z] = [y] ∧ H l = some (.lst xs) ∧ xs.length < sizeLine ∧ R (upd H l (.lst (xs ++ [y]))) := by
  obtain ⟨h1, h2, ms, h3, h4⟩ := h
  refine ⟨p, _, _, rfl, rfl, h3, ?_, k _ ⟨Same.wr h1 h2, h2, ms ++ [z], by rw [upd_same, List.map_append]; rfl, by rw [List.length_append]; simpa using h4⟩⟩
  rw [List.length_map]
  exact Nat.lt_of_le_of_lt h4 (Nat.lt_of_lt_of_le hn (by decide))
def spDraws (K : PySem.W.Frag) : Sp := fun vs H Q _ => ∃ (a : Addr) (ns : List Int), vs = [.ref a] ∧ SqL K H a (ns.map V.int) ∧ ns.length ≤ 63 ∧
  ∀ (p : Addr) (ms : List Int) (H' : Hp), Same H H' → H p = none → H' p = some (.lst (ms.map V.int)) → Q (.ref p) H'
theorem ok_law_draws (T : Txt K mg A) : FnOk P w K mg base CX0 1 A.a__law_draws A.d__law_draws ["script"] (spDraws K) := by
  refine T.F__law_draws.ok sc_law_draws (fun vs H Q E h => ?_) (fun cdv A' outer s H vs Q E hr h => ?_)
  · obtain ⟨a, ns, rfl, _⟩ := h
    rfl
  · obtain ⟨a, ns, rfl, hS, hlen, k⟩ := h
    refine ⟨_, pss_cons (ps_set (i := 1) sc_law_draws.nd rfl (Or.inl rfl) (pe_lst pa_nil))
  (pss_cons (ps_for PassesOwn.never rfl (pi_list (pv 0)) (pg_name (i := 2) sc_law_draws.nd rfl (Or.inl rfl))
  (pss_cons (ps_set (i := 3) sc_law_draws.nd rfl (Or.inl rfl) (pe_callB call_abs (by rfl) T.n_abs (by decide +kernel) (pa_cons (pv 2) pa_nil)))
  (C8.pss_cut (ps_if (pt_cmpR op_lt (pv 3) (pe_op op_pow (pe_int) (pe_int)) (nomark _))
  (pss_cons (ps_set (i := 4) sc_law_draws.nd rfl (Or.inl rfl) (pe_op op_mod (pe_callTy call_int1 (by rfl) T.n_int (by decide +kernel) (pa_cons (pe_op op_add (pe_op op_mul (pv 3) (pe_int)) (pe_int)) pa_nil)) (pe_int)))
  (pss_cons (ps_expr (pe_bm PySem.F.plainAttrs_list PySem.F.slot_list_append PySem.F.type_list_append mt_append (pv 1) (pa_cons (pe_op op_mod (pe_callTy call_int1 (by rfl) T.n_int (by decide +kernel) (pa_cons (pe_op op_add (pe_op op_mul (pv 4) (pe_int)) (pv 3)) pa_nil)) (pe_int)) pa_nil)))
  (pss_cons (ps_expr (pe_bm PySem.F.plainAttrs_list PySem.F.slot_list_append PySem.F.type_list_append mt_append (pv 1) (pa_cons (pe_op op_mod (pe_callTy call_int1 (by rfl) T.n_int (by decide +kernel) (pa_cons (pe_op op_add (pv 4) (pe_op op_fdiv (pv 3) (pe_int))) pa_nil)) (pe_int)) pa_nil)))
  (pss_one (ps_set (i := 3) sc_law_draws.nd rfl (Or.inl rfl) (pe_int))))))
  (pss_nil))
  (pss_one (ps_for PassesOwn.never rfl (pi_range1 (by rfl) T.n_range (pa_cons (pe_int) pa_nil)) (pg_name (i := 5) sc_law_draws.nd rfl (Or.inl rfl))
  (pss_one (ps_if (pt_cmpR op_gt (pv 3) (pe_int) (nomark _))
  (pss_cons (ps_expr (pe_bm PySem.F.plainAttrs_list PySem.F.slot_list_append PySem.F.type_list_append mt_append (pv 1) (pa_cons (pe_op op_mod (pe_callTy call_int1 (by rfl) T.n_int (by decide +kernel) (pa_cons (pv 3) pa_nil)) (pe_int)) pa_nil)))
  (pss_one (ps_set (i := 3) sc_law_draws.nd rfl (Or.inl rfl) (pe_op op_fdiv (pv 3) (pe_int)))))
  (pss_nil))))))))
  (pss_cons (ps_set (i := 6) sc_law_draws.nd rfl (Or.inl rfl) (pe_int))
  (C8.pss_cut (ps_if (pt_cmpR op_gt (pe_callB call_len_seq (by rfl) T.n_len (by decide +kernel) (pa_cons (pv 0) pa_nil)) (pe_int) (nomark _))
  (pss_one (ps_set (i := 6) sc_law_draws.nd rfl (Or.inl rfl) (pe_op op_add (pe_int) (pe_callB call_abs (by rfl) T.n_abs (by decide +kernel) (pa_cons (pe_ix ix_list (pv 0) (pe_int) (fun _ _ => rfl)) pa_nil)))))
  (pss_nil))
  (pss_cons (ps_for PassesOwn.never rfl (pi_range1 (by rfl) T.n_range (pa_cons (pe_int) pa_nil)) (pg_name (i := 5) sc_law_draws.nd rfl (Or.inl rfl))
  (pss_cons (ps_set (i := 6) sc_law_draws.nd rfl (Or.inl rfl) (pe_op op_mod (pe_callTy call_int1 (by rfl) T.n_int (by decide +kernel) (pa_cons (pe_op op_add (pe_op op_mul (pv 6) (pe_int)) (pe_int)) pa_nil)) (pe_int)))
  (pss_one (ps_expr (pe_bm PySem.F.plainAttrs_list PySem.F.slot_list_append PySem.F.type_list_append mt_append (pv 1) (pa_cons (pe_op op_fdiv (pv 6) (pe_int)) pa_nil))))))
  (pss_one (ps_ret (pe_lstRev rfl (by rfl) T.n_list (by rfl) T.n_reversed (pv 1)))))))), ?_⟩
    refine ⟨Nat.zero_le _, fun p hp => ?_⟩
    have d0 : DrawAt H (upd H p (.lst [])) p 0 := ⟨Same.upd hp, hp, [], upd_same, Nat.le_refl _⟩
    refine ⟨_, rfl, a, rfl, ⟨_, d0.1.seq hS⟩, for_list (K := K) (a := a) (xs := ns.map V.int) (fun i σ H' => ∃ v2 v3 v4 v5 : Option V, σ = [some (.ref a), some (.ref p), v2, v3, v4, v5, none] ∧ DrawAt H H' p (i * 62))
      ⟨_, _, _, _, rfl, d0⟩ (fun i σ H' _ ⟨_, _, _, _, _, R⟩ => R.1.seq hS) ?_ ?_⟩
    · rintro i y σ H' hi ⟨v2, v3, v4, v5, rfl, R⟩
      have hi63 : i < ns.length := by
        have q := (List.getElem?_eq_some_iff.mp hi).1
        rw [List.length_map] at q
        exact q
      obtain ⟨u, rfl⟩ : ∃ u, y = V.int u := by
        rw [List.getElem?_map] at hi
        cases e : ns[i]? with
        | none =>
          rw [e] at hi
          cases hi
        | some u =>
          rw [e] at hi
          exact ⟨u, (Option.some.inj hi).symm⟩
      -- number = abs(cell); if number < 10 ** 18
      refine ⟨_, rfl, _, rfl, ?_⟩
      generalize (if u < 0 then -u else u) = z
      refine ⟨fun σ H1 => ∃ (z : Int) (v4 : Option V), σ = [some (.ref a), some (.ref p), some (.int u), some (.int z), v4, v5, none] ∧ DrawAt H H1 p (i * 62 + 2), ?_, ?_⟩
      · walk_at "rd"
        refine ite2 (fun _ => ?_) (fun _ => ?_)
        · walk_at "rd"
          obtain ⟨_, _, ms, h3, _⟩ := id R
          refine ⟨.inl ⟨rfl, _, SqL.of h3⟩, ?_⟩
          walk_at "rd"
          refine R.add _ (by omega) fun H1 R1 => ?_
          walk_at "rd"
          obtain ⟨_, _, ms1, h4, _⟩ := id R1
          refine ⟨.inl ⟨rfl, _, SqL.of h4⟩, ?_⟩
          walk_at "rd"
          refine R1.add _ (by omega) fun H2 R2 => ?_
          exact ⟨_, _, rfl, R2⟩
        · exact ⟨z, _, rfl, R.1, R.2.1, by obtain ⟨ms, h3, h4⟩ := R.2.2; exact ⟨ms, h3, by omega⟩⟩
      · rintro σ H1 ⟨z, v4, rfl, R1⟩
        refine ⟨60, rfl, by decide, by decide, for_range (n := 60) (fun j σ H2 => ∃ (z : Int) (v5 : Option V), σ = [some (.ref a), some (.ref p), some (.int u), some (.int z), v4, v5, none] ∧ DrawAt H H2 p (i * 62 + 2 + j)) ⟨z, _, rfl, R1⟩ ?_ ?_⟩
        · rintro j σ H2 hj ⟨z, v5, rfl, R2⟩
          walk_at "rd"
          refine ite2 (fun _ => ?_) (fun _ => ?_)
          · obtain ⟨_, _, ms1, h4, _⟩ := id R2
            walk_at "rd"
            refine ⟨.inl ⟨rfl, _, SqL.of h4⟩, ?_⟩
            walk_at "rd"
            refine R2.add _ (by omega) fun H3 R3 => ?_
            walk_at "rd"
            exact ⟨_, _, rfl, R3⟩
          · exact ⟨z, _, rfl, R2.1, R2.2.1, by obtain ⟨ms, h3, h4⟩ := R2.2.2; exact ⟨ms, h3, by omega⟩⟩
        · rintro σ H2 ⟨z, v5, rfl, R2⟩
          exact ⟨_, _, _, _, rfl, R2.1, R2.2.1, by obtain ⟨ms, h3, h4⟩ := R2.2.2; exact ⟨ms, h3, by omega⟩⟩
    · rintro σ H1 ⟨v2, v3, v4, v5, rfl, R⟩
      have R0 : DrawAt H H1 p 4000 := ⟨R.1, R.2.1, by obtain ⟨ms, h3, h4⟩ := R.2.2; rw [List.length_map] at h4; exact ⟨ms, h3, by omega⟩⟩
      refine ⟨fun σ H2 => ∃ (z : Int), σ = [some (.ref a), some (.ref p), v2, v3, v4, v5, some (.int z)] ∧ DrawAt H H2 p 4000, ?_, ?_⟩
      · refine ⟨_, rfl, a, _, rfl, .inl (R0.1.seq hS), _, _, rfl, rfl, _, rfl, ite2 (fun hn => ?_) fun _ => ⟨_, rfl, R0⟩⟩
        have h0 : 0 < ns.length := by simpa using hn
        refine ⟨_, rfl, a, _, 0, .int ns[0], rfl, rfl, R0.1.seq hS, atI_nat (j := 0) (by simp [h0]), ?_⟩
        walk_at "rd"
        exact R0
      · rintro σ H2 ⟨z, rfl, R1⟩
        refine ⟨240, rfl, by decide, by decide, for_range (n := 240) (fun j σ H2 => ∃ (z : Int) (v5 : Option V), σ = [some (.ref a), some (.ref p), v2, v3, v4, v5, some (.int z)] ∧ DrawAt H H2 p (4000 + j)) ⟨z, _, rfl, R1⟩ ?_ ?_⟩
        · rintro j σ H2 hj ⟨z, v5, rfl, R2⟩
          walk_at "rd"
          obtain ⟨_, _, ms1, h4, _⟩ := id R2
          refine ⟨.inl ⟨rfl, _, SqL.of h4⟩, ?_⟩
          walk_at "rd"
          refine R2.add _ (by omega) fun H3 R3 => ?_
          exact ⟨_, _, rfl, R3⟩
        · rintro σ H2 ⟨z, v5, rfl, R2⟩
          obtain ⟨e1, e2, ms, h3, _⟩ := R2
          refine ⟨_, rfl, p, _, rfl, SqL.of h3, fun q hq => ?_⟩
          refine k q ms.reverse _ (e1.trans (Same.upd hq)) (e1.free hq) ?_
          rw [upd_same, List.map_reverse]
/-! ### one draw -/
def spTake (K : PySem.W.Frag) : Sp := fun vs H Q _ => ∃ (p : Addr) (ns : List Int) (b : Int), vs = [.ref p, .int b] ∧ H p = some (.lst (ns.map V.int)) ∧ 0 < b ∧
  ∀ (z : Int) (ms : List Int) (H' : Hp), 0 ≤ z → z < b → (H' = H ∨ H' = upd H p (.lst (ms.map V.int))) → Q (.int z) H'
theorem ok_law_take (T : Txt K mg A) : FnOk P w K mg base CX0 1 A.a__law_take A.d__law_take ["draws", "bound"] (spTake K) := by
  refine T.F__law_take.ok sc_law_take (fun vs H Q E h => ?_) (fun cdv A' outer s H vs Q E hr h => ?_)
  · obtain ⟨p, ns, b, rfl, _⟩ := h
    rfl
  · obtain ⟨p, ns, b, rfl, hp, hb, k⟩ := h
    refine ⟨_, pss_cons (ps_if (pt_cmpR op_eq (pe_callB call_len_seq (by rfl) T.n_len (by decide +kernel) (pa_cons (pv 0) pa_nil)) (pe_int) (nomark _))
  (pss_one (ps_ret (pe_int)))
  (pss_nil))
  (pss_one (ps_ret (pe_op op_mod (pe_callTy call_int1 (by rfl) T.n_int (by decide +kernel) (pa_cons (pe_bm0 PySem.F.plainAttrs_list PySem.F.slot_list_pop PySem.F.type_list_pop mt_pop (pv 0)) pa_nil)) (pv 1)))), ?_⟩
    refine ⟨_, rfl, p, _, rfl, .inl (SqL.of hp), rfl, _, rfl, ite2 (fun hn => ?_) fun hn => ?_⟩
    · exact k 0 [] H (Int.le_refl _) hb (.inl rfl)
    · have hl : ns.length ≠ 0 := fun e => hn (by simp [e])
      refine ⟨_, rfl, .inl ⟨rfl, _, SqL.of hp⟩, p, _, .int (ns[ns.length - 1]'(by omega)), rfl, rfl, hp, ?_, .inl ⟨_, rfl, _, rfl, _, _, rfl, rfl, hb, ?_⟩⟩
      · rw [List.length_map, List.getElem?_map, List.getElem?_eq_getElem (by omega)]
        rfl
      · refine k _ ns.dropLast _ (Int.emod_nonneg _ (by omega)) (Int.emod_lt_of_pos _ hb) (.inr ?_)
        rw [List.map_dropLast]
/-! ### two trees are the same -/
theorem tyx_tup {H : Hp} {a : Addr} {xs : List V} (h : SqT K H a xs) : TyX K H (.ref a) (.type "tuple") := by
  rcases h with (h | ⟨o, h⟩) | ⟨o, its, n, h, c, _⟩
  · exact .base (.tup h)
  · exact .fTuple h
  · exact .kTuple h c
theorem tyx_lst {H : Hp} {a : Addr} {xs : List V} (h : SqL K H a xs) : TyX K H (.ref a) (.type "list") := by
  rcases h with (h | ⟨o, h⟩) | ⟨o, its, n, h, c, _⟩
  · exact .base (.lst h)
  · exact .base (.frz h)
  · exact .kList h c
theorem ixs {H : Hp} {p : Addr} {xs : List V} {i : Nat} {v : V} {Q : VK} (h : SqL K H p xs ∨ SqT K H p xs) (e : xs[i]? = some v) (q : Q v H) : rIx K (.ref p) (.int (0 + (i : Int))) H Q := by
  have e' : atI xs (0 + (i : Int)) = some v := by
    rw [Int.zero_add]
    exact atI_nat e
  rcases h with h | h
  · exact .inl ⟨p, xs, _, v, rfl, rfl, h, e', q⟩
  · exact .inr (.inl ⟨p, xs, _, v, rfl, rfl, h, e', q⟩)
def tyN : D → String
  | .tup _ => "tuple"
  | .lst _ => "list"
  | .bl _ => "bool"
  | .int _ => "int"
  | .str _ => "str"
  | _ => "NoneType"
def seqD : D → Bool
  | .tup _ => true
  | .lst _ => true
  | _ => false
theorem kits (d : D) : ∃ t l b i s : Bool, PySem.W.kitOne K (.type (tyN d)) (.type "tuple") = some t ∧ PySem.W.kitOne K (.type (tyN d)) (.type "list") = some l ∧ PySem.W.kitOne K (.type (tyN d)) (.type "bool") = some b ∧
    PySem.W.kitOne K (.type (tyN d)) (.type "int") = some i ∧ PySem.W.kitOne K (.type (tyN d)) (.type "str") = some s ∧ (t || l) = seqD d := by
  have k1 : kitB "tuple" "tuple" = some true := by decide +kernel
  have k2 : kitB "tuple" "list" = some false := by decide +kernel
  have k3 : kitB "tuple" "bool" = some false := by decide +kernel
  have k4 : kitB "tuple" "int" = some false := by decide +kernel
  have k5 : kitB "tuple" "str" = some false := by decide +kernel
  have l1 : kitB "list" "tuple" = some false := by decide +kernel
  have l2 : kitB "list" "list" = some true := by decide +kernel
  have l3 : kitB "list" "bool" = some false := by decide +kernel
  have l4 : kitB "list" "int" = some false := by decide +kernel
  have l5 : kitB "list" "str" = some false := by decide +kernel
  have b1 : kitB "bool" "tuple" = some false := by decide +kernel
  have b2 : kitB "bool" "list" = some false := by decide +kernel
  have b3 : kitB "bool" "bool" = some true := by decide +kernel
  have b4 : kitB "bool" "int" = some true := by decide +kernel
  have b5 : kitB "bool" "str" = some false := by decide +kernel
  have i1 : kitB "int" "tuple" = some false := by decide +kernel
  have i2 : kitB "int" "list" = some false := by decide +kernel
  have i3 : kitB "int" "bool" = some false := by decide +kernel
  have i4 : kitB "int" "int" = some true := by decide +kernel
  have i5 : kitB "int" "str" = some false := by decide +kernel
  have s1 : kitB "str" "tuple" = some false := by decide +kernel
  have s2 : kitB "str" "list" = some false := by decide +kernel
  have s3 : kitB "str" "bool" = some false := by decide +kernel
  have s4 : kitB "str" "int" = some false := by decide +kernel
  have s5 : kitB "str" "str" = some true := by decide +kernel
  have n1 : kitB "NoneType" "tuple" = some false := by decide +kernel
  have n2 : kitB "NoneType" "list" = some false := by decide +kernel
  have n3 : kitB "NoneType" "bool" = some false := by decide +kernel
  have n4 : kitB "NoneType" "int" = some false := by decide +kernel
  have n5 : kitB "NoneType" "str" = some false := by decide +kernel
  cases d with
  | tup ds => exact ⟨_, _, _, _, _, kit_ty k1, kit_ty k2, kit_ty k3, kit_ty k4, kit_ty k5, rfl⟩
  | lst ds => exact ⟨_, _, _, _, _, kit_ty l1, kit_ty l2, kit_ty l3, kit_ty l4, kit_ty l5, rfl⟩
  | bl b => exact ⟨_, _, _, _, _, kit_ty b1, kit_ty b2, kit_ty b3, kit_ty b4, kit_ty b5, rfl⟩
  | int b => exact ⟨_, _, _, _, _, kit_ty i1, kit_ty i2, kit_ty i3, kit_ty i4, kit_ty i5, rfl⟩
  | str b => exact ⟨_, _, _, _, _, kit_ty s1, kit_ty s2, kit_ty s3, kit_ty s4, kit_ty s5, rfl⟩
  | _ => exact ⟨_, _, _, _, _, kit_ty n1, kit_ty n2, kit_ty n3, kit_ty n4, kit_ty n5, rfl⟩
theorem nil_of {H : Hp} {d : D} (r : Rp K H d []) : d = .nil := by
  cases d with
  | nil => rfl
  | tup ds =>
    obtain ⟨_, _, e, _⟩ := r
    cases e
  | lst ds =>
    obtain ⟨_, _, e, _⟩ := r
    cases e
  | cons a b =>
    obtain ⟨_, _, e, _⟩ := r
    cases e
  | _ => cases r
theorem no_cons {H : Hp} {a b : D} {x : V} (r : Rp K H (.cons a b) [x]) (h : (D.cons a b).isRow = false) : False := by
  obtain ⟨_, _, e, _, r2⟩ := r
  cases e
  rw [nil_of r2] at h
  cases h
theorem tyx_of {H : Hp} {d : D} {x : V} (r : Rp K H d [x]) (h : d.isRow = false) : TyX K H x (.type (tyN d)) := by
  cases d with
  | tup ds =>
    obtain ⟨p, xs, e1, r1, _⟩ := r
    cases e1
    exact tyx_tup r1
  | lst ds =>
    obtain ⟨p, xs, e1, r1, _⟩ := r
    cases e1
    exact tyx_lst r1
  | bl b =>
    cases r
    exact .base (.bl _)
  | int b =>
    cases r
    exact .base (.int _)
  | str b =>
    cases r
    exact .base (.str _)
  | non =>
    cases r
    exact .base .non
  | nil => cases h
  | cons a b => exact (no_cons r h).elim
theorem seq_of {H : Hp} {d : D} {x : V} (r : Rp K H d [x]) (h : seqD d = true) (o : d.ok = true) : ∃ (p : Addr) (xs : List V) (ds : D), x = .ref p ∧ (SqL K H p xs ∨ SqT K H p xs) ∧ xs.length ≤ 100000 ∧ Rp K H ds xs ∧ ds.isRow = true ∧ ds.ok = true ∧ d.dep = ds.dep + 1 ∧ (d = .tup ds ∨ d = .lst ds) := by
  cases d with
  | tup ds =>
    obtain ⟨p, xs, e1, r1, r2, r3⟩ := r
    cases e1
    simp only [D.ok, Bool.and_eq_true] at o
    exact ⟨p, xs, ds, rfl, .inr r1, r2, r3, o.1, o.2, rfl, .inl rfl⟩
  | lst ds =>
    obtain ⟨p, xs, e1, r1, r2, r3⟩ := r
    cases e1
    simp only [D.ok, Bool.and_eq_true] at o
    exact ⟨p, xs, ds, rfl, .inl r1, r2, r3, o.1, o.2, rfl, .inr rfl⟩
  | _ => cases h
theorem scal_of {H : Hp} {d : D} {x y : V} (r : Rp K H d [x]) (r2 : Rp K H d [y]) (h : seqD d = false) (o : d.isRow = false) : x = y ∧ scal x y = true := by
  cases d with
  | tup ds => cases h
  | lst ds => cases h
  | nil => cases o
  | cons a b => exact (no_cons r o).elim
  | _ =>
    cases r
    cases r2
    exact ⟨rfl, rfl⟩
def spSame (K : PySem.W.Frag) (n : Nat) : Sp := fun vs H Q _ => ∃ (x y : V) (d : D), vs = [x, y] ∧ Rp K H d [x] ∧ Rp K H d [y] ∧ d.isRow = false ∧ d.ok = true ∧ d.dep < n ∧ Q (.bl true) H
theorem ok_law_same (T : Txt K mg A) : ∀ n, FnOk P w K mg base CX0 n A.a__law_same A.d__law_same ["actual", "due"] (spSame K n) := by
  intro n
  induction n with
  | zero => exact ⟨fun vs H Q E ⟨_, _, _, _, _, _, _, _, h, _⟩ => absurd h (Nat.not_lt_zero _), fun _ _ _ _ _ _ _ _ _ _ _ _ _ ⟨_, _, _, _, _, _, _, _, h, _⟩ => absurd h (Nat.not_lt_zero _)⟩
  | succ n ih =>
    refine T.F__law_same.ok sc_law_same (fun vs H Q E h => ?_) (fun cdv A' outer s H vs Q E hr h => ?_)
    · obtain ⟨x, y, d, rfl, _⟩ := h
      rfl
    · obtain ⟨x, y, d, rfl, hx, hy, h1, h2, h3, k⟩ := h
      refine ⟨_, pss_cons (ps_if (PW.pt (pw_or (pt_val (pe_callB call_isi (by rfl) T.n_isinstance (by decide +kernel) (pa_cons (pv 1) (pa_cons (pe_bltn (v := .ty "tuple") (by rfl) T.n_tuple (by decide +kernel) rfl) pa_nil)))) (pw_or1 (pt_val (pe_callB call_isi (by rfl) T.n_isinstance (by decide +kernel) (pa_cons (pv 1) (pa_cons (pe_bltn (v := .ty "list") (by rfl) T.n_list (by decide +kernel) rfl) pa_nil)))))))
  (pss_cons (ps_if (PW.pt (pw_or (pt_cmpR op_ne (pe_callB call_isi (by rfl) T.n_isinstance (by decide +kernel) (pa_cons (pv 1) (pa_cons (pe_bltn (v := .ty "tuple") (by rfl) T.n_tuple (by decide +kernel) rfl) pa_nil))) (pe_callB call_isi (by rfl) T.n_isinstance (by decide +kernel) (pa_cons (pv 0) (pa_cons (pe_bltn (v := .ty "tuple") (by rfl) T.n_tuple (by decide +kernel) rfl) pa_nil))) (nomark _)) (pw_or1 (pt_cmpR op_ne (pe_callB call_isi (by rfl) T.n_isinstance (by decide +kernel) (pa_cons (pv 1) (pa_cons (pe_bltn (v := .ty "list") (by rfl) T.n_list (by decide +kernel) rfl) pa_nil))) (pe_callB call_isi (by rfl) T.n_isinstance (by decide +kernel) (pa_cons (pv 0) (pa_cons (pe_bltn (v := .ty "list") (by rfl) T.n_list (by decide +kernel) rfl) pa_nil))) (nomark _)))))
  (pss_one (ps_ret (pe_bl)))
  (pss_nil))
  (pss_cons (ps_if (pt_cmpR op_ne (pe_callB call_len_seq (by rfl) T.n_len (by decide +kernel) (pa_cons (pv 0) pa_nil)) (pe_callB call_len_seq (by rfl) T.n_len (by decide +kernel) (pa_cons (pv 1) pa_nil)) (nomark _))
  (pss_one (ps_ret (pe_bl)))
  (pss_nil))
  (pss_cons (ps_for PassesOwn.never rfl (pi_range1 (by rfl) T.n_range (pa_cons (pe_callB call_len_seq (by rfl) T.n_len (by decide +kernel) (pa_cons (pv 1) pa_nil)) pa_nil)) (pg_name (i := 2) sc_law_same.nd rfl (Or.inl rfl))
  (pss_one (ps_if (pt_not (pt_val (pe_call ih (hr.mono (by omega)) rfl T.g__law_same T.F__law_same.kp T.b__law_same .nil pass0 (pa_cons (pe_ix ix_seq (pv 0) (pv 2) (fun _ _ => rfl)) (pa_cons (pe_ix ix_seq (pv 1) (pv 2) (fun _ _ => rfl)) pa_nil)))))
  (pss_one (ps_ret (pe_bl)))
  (pss_nil))))
  (pss_one (ps_ret (pe_bl))))))
  (pss_nil))
  (pss_cons (ps_if (pt_cmpR op_ne (pe_callB call_isi (by rfl) T.n_isinstance (by decide +kernel) (pa_cons (pv 1) (pa_cons (pe_bltn (v := .ty "bool") (by rfl) T.n_bool (by decide +kernel) rfl) pa_nil))) (pe_callB call_isi (by rfl) T.n_isinstance (by decide +kernel) (pa_cons (pv 0) (pa_cons (pe_bltn (v := .ty "bool") (by rfl) T.n_bool (by decide +kernel) rfl) pa_nil))) (nomark _))
  (pss_one (ps_ret (pe_bl)))
  (pss_nil))
  (pss_cons (ps_if (PW.pt (pw_or (pt_cmpR op_ne (pe_callB call_isi (by rfl) T.n_isinstance (by decide +kernel) (pa_cons (pv 1) (pa_cons (pe_bltn (v := .ty "int") (by rfl) T.n_int (by decide +kernel) rfl) pa_nil))) (pe_callB call_isi (by rfl) T.n_isinstance (by decide +kernel) (pa_cons (pv 0) (pa_cons (pe_bltn (v := .ty "int") (by rfl) T.n_int (by decide +kernel) rfl) pa_nil))) (nomark _)) (pw_or1 (pt_cmpR op_ne (pe_callB call_isi (by rfl) T.n_isinstance (by decide +kernel) (pa_cons (pv 1) (pa_cons (pe_bltn (v := .ty "str") (by rfl) T.n_str (by decide +kernel) rfl) pa_nil))) (pe_callB call_isi (by rfl) T.n_isinstance (by decide +kernel) (pa_cons (pv 0) (pa_cons (pe_bltn (v := .ty "str") (by rfl) T.n_str (by decide +kernel) rfl) pa_nil))) (nomark _)))))
  (pss_one (ps_ret (pe_bl)))
  (pss_nil))
  (pss_one (ps_ret (pe_cmpR op_eq (pv 0) (pv 1) (nomark _)))))), ?_⟩
      obtain ⟨t, l, b, i, z, kt, kl, kb, ki, kz, e⟩ := kits (K := K) d
      have tx := tyx_of hx h1
      have ty := tyx_of hy h1
      cases hs : seqD d with
      | true =>
        rw [hs] at e
        obtain ⟨p, xs, ds, rfl, r1, l1, g1, w1, o1, e1, c1⟩ := seq_of hx hs h2
        obtain ⟨q, ys, ds', rfl, r2, l2, g2, w2, o2, e2, c2⟩ := seq_of hy hs h2
        have eds : ds' = ds := by
          rcases c1 with c1 | c1 <;> rcases c2 with c2 | c2 <;> rw [c1] at c2 <;> first | (cases c2; rfl) | cases c2
        subst eds
        have el : ys.length = xs.length := by rw [Rp.row_len w1 g1, Rp.row_len w1 g2]
        have hS1 : ∀ {i : Nat} {v : V}, xs[i]? = some v → ∃ c u, ys[i]? = some u ∧ c.isRow = false ∧ c.ok = true ∧ c.dep ≤ ds'.dep ∧ Rp K H c [v] ∧ Rp K H c [u] := fun {i v} e => Rp.at_ w1 o1 g1 e g2
        have fin : Q (.bl true) H := k
        cases t with
        | true =>
          refine ⟨_, rfl, _, _, _, _, _, rfl, .ty _, ty, kt, _, rfl, iteT ?_⟩
          refine ⟨_, rfl, _, _, _, _, _, rfl, .ty _, ty, kt, _, rfl, _, _, _, _, _, rfl, .ty _, tx, kt, rfl, _, rfl, iteNS rfl ?_⟩
          refine ⟨_, rfl, _, _, _, _, _, rfl, .ty _, ty, kl, _, rfl, _, _, _, _, _, rfl, .ty _, tx, kl, rfl, _, rfl, iteNS rfl ?_⟩
          refine ⟨_, rfl, _, _, rfl, r1, _, rfl, _, _, rfl, r2, rfl, _, rfl, iteNS (by rw [el]) ?_⟩
          refine ⟨_, rfl, _, _, rfl, r2, _, rfl, by omega, by omega, for_range (n := ys.length) (fun i σ H' => ∃ v : Option V, σ = [some (.ref p), some (.ref q), v] ∧ H' = H) ⟨_, rfl, rfl⟩ ?_ ?_⟩
          · rintro i σ H' hi ⟨v, rfl, rfl⟩
            have hj : i < xs.length := by omega
            obtain ⟨c, u, a1, a2, a3, a4, a5, a6⟩ := hS1 (i := i) (List.getElem?_eq_getElem hj)
            refine ⟨_, rfl, _, rfl, ixs r1 (List.getElem?_eq_getElem hj) ⟨_, rfl, _, rfl, ixs r2 a1 ?_⟩⟩
            refine ⟨_, _, c, rfl, a5, a6, a2, a3, by omega, _, rfl, ?_⟩
            exact iteF ⟨_, rfl, rfl⟩
          · rintro σ H' ⟨v, rfl, rfl⟩
            exact fin
        | false =>
          obtain rfl : l = true := by simpa using e
          refine ⟨_, rfl, _, _, _, _, _, rfl, .ty _, ty, kt, _, rfl, iteF ⟨_, rfl, _, _, _, _, _, rfl, .ty _, ty, kl, _, rfl, iteT ?_⟩⟩
          refine ⟨_, rfl, _, _, _, _, _, rfl, .ty _, ty, kt, _, rfl, _, _, _, _, _, rfl, .ty _, tx, kt, rfl, _, rfl, iteNS rfl ?_⟩
          refine ⟨_, rfl, _, _, _, _, _, rfl, .ty _, ty, kl, _, rfl, _, _, _, _, _, rfl, .ty _, tx, kl, rfl, _, rfl, iteNS rfl ?_⟩
          refine ⟨_, rfl, _, _, rfl, r1, _, rfl, _, _, rfl, r2, rfl, _, rfl, iteNS (by rw [el]) ?_⟩
          refine ⟨_, rfl, _, _, rfl, r2, _, rfl, by omega, by omega, for_range (n := ys.length) (fun i σ H' => ∃ v : Option V, σ = [some (.ref p), some (.ref q), v] ∧ H' = H) ⟨_, rfl, rfl⟩ ?_ ?_⟩
          · rintro i σ H' hi ⟨v, rfl, rfl⟩
            have hj : i < xs.length := by omega
            obtain ⟨c, u, a1, a2, a3, a4, a5, a6⟩ := hS1 (i := i) (List.getElem?_eq_getElem hj)
            refine ⟨_, rfl, _, rfl, ixs r1 (List.getElem?_eq_getElem hj) ⟨_, rfl, _, rfl, ixs r2 a1 ?_⟩⟩
            refine ⟨_, _, c, rfl, a5, a6, a2, a3, by omega, _, rfl, ?_⟩
            exact iteF ⟨_, rfl, rfl⟩
          · rintro σ H' ⟨v, rfl, rfl⟩
            exact fin
      | false =>
        rw [hs] at e
        obtain ⟨rfl, rfl⟩ : t = false ∧ l = false := by simpa using e
        obtain ⟨rfl, hsc⟩ := scal_of hx hy hs h1
        refine ⟨_, rfl, _, _, _, _, _, rfl, .ty _, ty, kt, _, rfl, iteF ⟨_, rfl, _, _, _, _, _, rfl, .ty _, ty, kl, _, rfl, iteF ?_⟩⟩
        refine ⟨_, rfl, _, _, _, _, _, rfl, .ty _, ty, kb, _, rfl, _, _, _, _, _, rfl, .ty _, tx, kb, rfl, _, rfl, iteNS rfl ?_⟩
        refine ⟨_, rfl, _, _, _, _, _, rfl, .ty _, ty, ki, _, rfl, _, _, _, _, _, rfl, .ty _, tx, ki, rfl, _, rfl, iteNS rfl ?_⟩
        refine ⟨_, rfl, _, _, _, _, _, rfl, .ty _, ty, kz, _, rfl, _, _, _, _, _, rfl, .ty _, tx, kz, rfl, _, rfl, iteNS rfl ?_⟩
        refine ⟨_, rfl, _, rfl, hsc, ?_⟩
        rw [decide_eq_true rfl]
        exact k
end
end K01

/-! a Hook like He.hookX whose written part is reached by fewer steps: a large top's look is quick, and small -/
namespace YF
open PySem PySem.W HandSHeadRun He
/-- what stands one step on: a def's code, a class's namespace and its bases -/
def nextZ (g : Addr → Option Obj) (a : Addr) : List Addr := match g a with
  | some ⟨_, _, .func fd, _⟩ => refV fd.code ++ (refV fd.kwdefaults ++ refV fd.defaults)
  | some ⟨_, _, .cls cd, _⟩ => cd.ns :: cd.mro.flatMap refV
  | _ => []
/-- the values of a dict -/
def valsZ (g : Addr → Option Obj) (a : Addr) : List Addr := match g a with
  | some ⟨_, _, .dict es _, _⟩ => es.toList.flatMap fun e => refV e.val
  | _ => []
def asZ (g : Addr → Option Obj) : List Addr :=
  let l1 := valsZ g mainGlobals
  let l2 := l1.flatMap (nextZ g)
  let l3 := l2.flatMap (valsZ g)
  mainGlobals :: (l1 ++ (l2 ++ (l3 ++ l3.flatMap (nextZ g))))
def KZ (g : Addr → Option Obj) : Frag := frT g (asZ g)
variable {fa : List Fa} {fn : List DefD} {ts : List Tab} {tf : List Defn} {ex : Frag → Bool} {w : World}
def obsZ (fa : List Fa) (fn : List DefD) (ts : List Tab) (tf : List Defn) (ex : Frag → Bool) (g : Addr → Option Obj) : AlX := (fun K : Frag => ((obsT fa fn ts K, ex K && tabsB g tf K) : AlX)) (KZ g)
theorem tabZ {g : Addr → Option Obj} {K : Frag} (z : tabsB g tf K = true) {p : Defn} (m : p ∈ tf) : codeHdIn K (cT K p).1 (cT K p).2 = true ∧ ∃ o, g (cT K p).2 = some o ∧ emptyTab o = true := by
  have a := Bool.and_eq_true_iff.mp (List.all_eq_true.mp z p m)
  refine ⟨a.1, ?_⟩
  have b := a.2
  revert b
  cases g (cT K p).2 with
  | some u => exact fun b => ⟨u, rfl, b⟩
  | none => exact fun b => by cases b
theorem saysZ {H : Heap} (z : obsZ fa fn ts tf ex H.get? = valX fn ts w) : SaysX fa fn ts tf ex w H (KZ H.get?) := by
  obtain ⟨a, b⟩ := Prod.mk.inj z
  obtain ⟨b1, b2⟩ := Bool.and_eq_true_iff.mp b
  constructor
  · exact a
  · exact b1
  · exact fun p m => (tabZ b2 m).1
  · intro p m
    obtain ⟨u, e1, e2⟩ := (tabZ b2 m).2
    exact frT_none e1 e2
  · intro p m
    obtain ⟨u, e1, e2⟩ := (tabZ b2 m).2
    exact e1.trans (congrArg some (emptyTab_eq e2))
def hookZ (fa : List Fa) (fn : List DefD) (ts : List Tab) (tf : List Defn) (ex : Frag → Bool) : Hook :=
  { α := AlX, obs := fun s => obsZ fa fn ts tf ex s.heap.get?, val := fun v => valX fn ts v, says := fun v H => ∃ K : Frag, K.In H ∧ SaysX fa fn ts tf ex v H K,
    of := fun _ _ z => ⟨KZ _, frT_in, saysZ z⟩,
    keeps := fun _ _ _ ⟨K, x, c⟩ k => ⟨K, Frag.In.keeps x k, { t := c.t, more := c.more, hd := c.hd, out := c.out, empty := fun p m => k _ _ (c.empty p m) }⟩ }
theorem obsZ_eq {g : Addr → Option Obj} {s : Shared} (z : ∀ a, g a = s.heap.get? a) : obsZ fa fn ts tf ex g = (hookZ fa fn ts tf ex).obs s := by
  rw [show g = s.heap.get? from funext z]
  rfl
end YF

namespace K01
open PySem L2 YF
def dd_parts_of : He.DefD := ⟨("parts_of", none), "parts_of", "parts_of", defArgs s_parts_of, defBody s_parts_of, defScope s_parts_of, [], []⟩
def dd_lists_of : He.DefD := ⟨("lists_of", none), "lists_of", "lists_of", defArgs s_lists_of, defBody s_lists_of, defScope s_lists_of, [], []⟩
def dd_write_expression : He.DefD := ⟨("write_expression", none), "write_expression", "write_expression", defArgs s_write_expression, defBody s_write_expression, defScope s_write_expression, [], []⟩
def dd__pieces : He.DefD := ⟨("_pieces", none), "_pieces", "_pieces", defArgs s_pieces, defBody s_pieces, defScope s_pieces, [], []⟩
def dd__part : He.DefD := ⟨("_part", none), "_part", "_part", defArgs s_part, defBody s_part, defScope s_part, [], []⟩
def dd_read_expression : He.DefD := ⟨("read_expression", none), "read_expression", "read_expression", defArgs s_read_expression, defBody s_read_expression, defScope s_read_expression, [], []⟩
def dd_read_index : He.DefD := ⟨("read_index", none), "read_index", "read_index", defArgs s_read_index, defBody s_read_index, defScope s_read_index, [], []⟩
def dd__read_and : He.DefD := ⟨("_read_and", none), "_read_and", "_read_and", defArgs s_read_and, defBody s_read_and, defScope s_read_and, [], []⟩
def dd__read_not : He.DefD := ⟨("_read_not", none), "_read_not", "_read_not", defArgs s_read_not, defBody s_read_not, defScope s_read_not, [], []⟩
def dd__read_comparison : He.DefD := ⟨("_read_comparison", none), "_read_comparison", "_read_comparison", defArgs s_read_comparison, defBody s_read_comparison, defScope s_read_comparison, [], []⟩
def dd__read_sum : He.DefD := ⟨("_read_sum", none), "_read_sum", "_read_sum", defArgs s_read_sum, defBody s_read_sum, defScope s_read_sum, [], []⟩
def dd__read_product : He.DefD := ⟨("_read_product", none), "_read_product", "_read_product", defArgs s_read_product, defBody s_read_product, defScope s_read_product, [], []⟩
def dd__read_sign : He.DefD := ⟨("_read_sign", none), "_read_sign", "_read_sign", defArgs s_read_sign, defBody s_read_sign, defScope s_read_sign, [], []⟩
def dd__read_atom : He.DefD := ⟨("_read_atom", none), "_read_atom", "_read_atom", defArgs s_read_atom, defBody s_read_atom, defScope s_read_atom, [], []⟩
def dd__read_parentheses : He.DefD := ⟨("_read_parentheses", none), "_read_parentheses", "_read_parentheses", defArgs s_read_parentheses, defBody s_read_parentheses, defScope s_read_parentheses, [], []⟩
def dd_read_cell : He.DefD := ⟨("read_cell", none), "read_cell", "read_cell", defArgs s_read_cell, defBody s_read_cell, defScope s_read_cell, [], []⟩
def dd__read_plain_cell : He.DefD := ⟨("_read_plain_cell", none), "_read_plain_cell", "_read_plain_cell", defArgs s_read_plain_cell, defBody s_read_plain_cell, defScope s_read_plain_cell, [], []⟩
def dd_read_statements : He.DefD := ⟨("read_statements", none), "read_statements", "read_statements", defArgs s_read_statements, defBody s_read_statements, defScope s_read_statements, [], []⟩
def dd_may_stand : He.DefD := ⟨("may_stand", none), "may_stand", "may_stand", defArgs s_may_stand, defBody s_may_stand, defScope s_may_stand, [], []⟩
def dd_may_declare : He.DefD := ⟨("may_declare", none), "may_declare", "may_declare", defArgs s_may_declare, defBody s_may_declare, defScope s_may_declare, [], []⟩
def dd__read_later : He.DefD := ⟨("_read_later", none), "_read_later", "_read_later", defArgs s_read_later, defBody s_read_later, defScope s_read_later, [], []⟩
def dd__read_atomic : He.DefD := ⟨("_read_atomic", none), "_read_atomic", "_read_atomic", defArgs s_read_atomic, defBody s_read_atomic, defScope s_read_atomic, [], []⟩
def dd_measure : He.DefD := ⟨("measure", none), "measure", "measure", defArgs s_measure, defBody s_measure, defScope s_measure, [], []⟩
def dd_are_within_limits : He.DefD := ⟨("are_within_limits", none), "are_within_limits", "are_within_limits", defArgs s_are_within_limits, defBody s_are_within_limits, defScope s_are_within_limits, [], []⟩
def dd_is_name : He.DefD := ⟨("is_name", none), "is_name", "is_name", defArgs s_is_name, defBody s_is_name, defScope s_is_name, [], []⟩
def dd_is_value : He.DefD := ⟨("is_value", none), "is_value", "is_value", defArgs s_is_value, defBody s_is_value, defScope s_is_value, [], []⟩
def dd_tokens : He.DefD := ⟨("tokens", none), "tokens", "tokens", defArgs s_tokens, defBody s_tokens, defScope s_tokens, [], []⟩
def dd__token : He.DefD := ⟨("_token", none), "_token", "_token", defArgs s_token, defBody s_token, defScope s_token, [], []⟩
def dd__row : He.DefD := ⟨("_row", none), "_row", "_row", defArgs s_row, defBody s_row, defScope s_row, [], []⟩
def dd__is_number : He.DefD := ⟨("_is_number", none), "_is_number", "_is_number", defArgs s_is_number, defBody s_is_number, defScope s_is_number, [], []⟩
def dd_Line___init__ : He.DefD := ⟨("Line", some "__init__"), "__init__", "Line.__init__", defArgs s_Line___init__, defBody s_Line___init__, defScope s_Line___init__, [], []⟩
def dd_Line_is_over : He.DefD := ⟨("Line", some "is_over"), "is_over", "Line.is_over", defArgs s_Line_is_over, defBody s_Line_is_over, defScope s_Line_is_over, [], []⟩
def dd_Line_text : He.DefD := ⟨("Line", some "text"), "text", "Line.text", defArgs s_Line_text, defBody s_Line_text, defScope s_Line_text, [.int 0], []⟩
def dd_Line_is_number : He.DefD := ⟨("Line", some "is_number"), "is_number", "Line.is_number", defArgs s_Line_is_number, defBody s_Line_is_number, defScope s_Line_is_number, [.int 0], []⟩
def dd_Line_skip : He.DefD := ⟨("Line", some "skip"), "skip", "Line.skip", defArgs s_Line_skip, defBody s_Line_skip, defScope s_Line_skip, [], []⟩
def dd_Line_take : He.DefD := ⟨("Line", some "take"), "take", "Line.take", defArgs s_Line_take, defBody s_Line_take, defScope s_Line_take, [], []⟩
def dd_Line_finish : He.DefD := ⟨("Line", some "finish"), "finish", "Line.finish", defArgs s_Line_finish, defBody s_Line_finish, defScope s_Line_finish, [], []⟩
def dd_Line_begin_part : He.DefD := ⟨("Line", some "begin_part"), "begin_part", "Line.begin_part", defArgs s_Line_begin_part, defBody s_Line_begin_part, defScope s_Line_begin_part, [], []⟩
def dd_Line_end_part : He.DefD := ⟨("Line", some "end_part"), "end_part", "Line.end_part", defArgs s_Line_end_part, defBody s_Line_end_part, defScope s_Line_end_part, [], []⟩
def dd_Line_take_number : He.DefD := ⟨("Line", some "take_number"), "take_number", "Line.take_number", defArgs s_Line_take_number, defBody s_Line_take_number, defScope s_Line_take_number, [], []⟩
def dd_Line_take_integer : He.DefD := ⟨("Line", some "take_integer"), "take_integer", "Line.take_integer", defArgs s_Line_take_integer, defBody s_Line_take_integer, defScope s_Line_take_integer, [], []⟩
def dd_Line_near_name : He.DefD := ⟨("Line", some "near_name"), "near_name", "Line.near_name", defArgs s_Line_near_name, defBody s_Line_near_name, defScope s_Line_near_name, [], []⟩
def dd_Line_take_new_name : He.DefD := ⟨("Line", some "take_new_name"), "take_new_name", "Line.take_new_name", defArgs s_Line_take_new_name, defBody s_Line_take_new_name, defScope s_Line_take_new_name, [], []⟩
def dd_Line_near_known_name : He.DefD := ⟨("Line", some "near_known_name"), "near_known_name", "Line.near_known_name", defArgs s_Line_near_known_name, defBody s_Line_near_known_name, defScope s_Line_near_known_name, [], []⟩
def dd_Thread___init__ : He.DefD := ⟨("Thread", some "__init__"), "__init__", "Thread.__init__", defArgs s_Thread___init__, defBody s_Thread___init__, defScope s_Thread___init__, [], []⟩
def dd_Program___init__ : He.DefD := ⟨("Program", some "__init__"), "__init__", "Program.__init__", defArgs s_Program___init__, defBody s_Program___init__, defScope s_Program___init__, [], []⟩
def dd_read_program : He.DefD := ⟨("read_program", none), "read_program", "read_program", defArgs s_read_program, defBody s_read_program, defScope s_read_program, [], []⟩
def dd_OpenList___init__ : He.DefD := ⟨("OpenList", some "__init__"), "__init__", "OpenList.__init__", defArgs s_OpenList___init__, defBody s_OpenList___init__, defScope s_OpenList___init__, [.non, .non], []⟩
def dd_Reader___init__ : He.DefD := ⟨("Reader", some "__init__"), "__init__", "Reader.__init__", defArgs s_Reader___init__, defBody s_Reader___init__, defScope s_Reader___init__, [], []⟩
def dd_Reader_read_line : He.DefD := ⟨("Reader", some "read_line"), "read_line", "Reader.read_line", defArgs s_Reader_read_line, defBody s_Reader_read_line, defScope s_Reader_read_line, [], []⟩
def dd_Reader_may_begin : He.DefD := ⟨("Reader", some "may_begin"), "may_begin", "Reader.may_begin", defArgs s_Reader_may_begin, defBody s_Reader_may_begin, defScope s_Reader_may_begin, [], []⟩
def dd_Reader_declare_cell : He.DefD := ⟨("Reader", some "declare_cell"), "declare_cell", "Reader.declare_cell", defArgs s_Reader_declare_cell, defBody s_Reader_declare_cell, defScope s_Reader_declare_cell, [], []⟩
def dd_Reader_begin_thread : He.DefD := ⟨("Reader", some "begin_thread"), "begin_thread", "Reader.begin_thread", defArgs s_Reader_begin_thread, defBody s_Reader_begin_thread, defScope s_Reader_begin_thread, [], []⟩
def dd_Reader_declare_local : He.DefD := ⟨("Reader", some "declare_local"), "declare_local", "Reader.declare_local", defArgs s_Reader_declare_local, defBody s_Reader_declare_local, defScope s_Reader_declare_local, [], []⟩
def dd_Reader_end_list : He.DefD := ⟨("Reader", some "end_list"), "end_list", "Reader.end_list", defArgs s_Reader_end_list, defBody s_Reader_end_list, defScope s_Reader_end_list, [], []⟩
def dd_Reader_add_statements : He.DefD := ⟨("Reader", some "add_statements"), "add_statements", "Reader.add_statements", defArgs s_Reader_add_statements, defBody s_Reader_add_statements, defScope s_Reader_add_statements, [], []⟩
def dd_Reader_begin_list : He.DefD := ⟨("Reader", some "begin_list"), "begin_list", "Reader.begin_list", defArgs s_Reader_begin_list, defBody s_Reader_begin_list, defScope s_Reader_begin_list, [], []⟩
def dd__law_draws : He.DefD := ⟨("_law_draws", none), "_law_draws", "_law_draws", defArgs s_law_draws, defBody s_law_draws, defScope s_law_draws, [], []⟩
def dd__law_take : He.DefD := ⟨("_law_take", none), "_law_take", "_law_take", defArgs s_law_take, defBody s_law_take, defScope s_law_take, [], []⟩
def dd__law_same : He.DefD := ⟨("_law_same", none), "_law_same", "_law_same", defArgs s_law_same, defBody s_law_same, defScope s_law_same, [], []⟩
def dd__law_keys : He.DefD := ⟨("_law_keys", none), "_law_keys", "_law_keys", defArgs s_law_keys, defBody s_law_keys, defScope s_law_keys, [], []⟩
def dd__law_names : He.DefD := ⟨("_law_names", none), "_law_names", "_law_names", defArgs s_law_names, defBody s_law_names, defScope s_law_names, [], []⟩
def dd__law_number : He.DefD := ⟨("_law_number", none), "_law_number", "_law_number", defArgs s_law_number, defBody s_law_number, defScope s_law_number, [], []⟩
def dd__law_exp : He.DefD := ⟨("_law_exp", none), "_law_exp", "_law_exp", defArgs s_law_exp, defBody s_law_exp, defScope s_law_exp, [], []⟩
def dd__law_sign : He.DefD := ⟨("_law_sign", none), "_law_sign", "_law_sign", defArgs s_law_sign, defBody s_law_sign, defScope s_law_sign, [], []⟩
def dd__law_part : He.DefD := ⟨("_law_part", none), "_law_part", "_law_part", defArgs s_law_part, defBody s_law_part, defScope s_law_part, [], []⟩
def dd__law_index : He.DefD := ⟨("_law_index", none), "_law_index", "_law_index", defArgs s_law_index, defBody s_law_index, defScope s_law_index, [], []⟩
def dd__law_written : He.DefD := ⟨("_law_written", none), "_law_written", "_law_written", defArgs s_law_written, defBody s_law_written, defScope s_law_written, [], []⟩
def dd__law_boxed : He.DefD := ⟨("_law_boxed", none), "_law_boxed", "_law_boxed", defArgs s_law_boxed, defBody s_law_boxed, defScope s_law_boxed, [], []⟩
def dd__law_loose : He.DefD := ⟨("_law_loose", none), "_law_loose", "_law_loose", defArgs s_law_loose, defBody s_law_loose, defScope s_law_loose, [], []⟩
def dd__law_read : He.DefD := ⟨("_law_read", none), "_law_read", "_law_read", defArgs s_law_read, defBody s_law_read, defScope s_law_read, [], []⟩
def dd_law : He.DefD := ⟨("law", none), "law", "law", defArgs s_law, defBody s_law, defScope s_law, [], []⟩
def ts : List He.Tab := [((fun K => He.ga K "COMPARISONS"), ["<", "<=", "=", ">", ">="]), ((fun K => He.ga K "SUMS"), ["+", "-"]), ((fun K => He.ga K "PRODUCTS"), ["*", "/", "rest"]), ((fun K => He.ga K "THREAD_FORMS"), ["set", "say", "pause", "if", "repeat", "atomic", "take", "give", "meet", "send", "receive", "swap"]), ((fun K => He.ga K "BLOCK_FORMS"), ["set", "put", "later", "retry", "undo", "if", "repeat", "choose"]), ((fun K => He.ga K "OPERATORS"), ["plus", "minus", "times", "over", "rest", "less", "atmost", "same", "and", "or"])]
def fn : List He.DefD := [dd_parts_of, dd_lists_of, dd_write_expression, dd__pieces, dd__part, dd_read_expression, dd_read_index, dd__read_and, dd__read_not, dd__read_comparison, dd__read_sum, dd__read_product, dd__read_sign, dd__read_atom, dd__read_parentheses, dd_read_cell, dd__read_plain_cell, dd_read_statements, dd_may_stand, dd_may_declare, dd__read_later, dd__read_atomic, dd_measure, dd_are_within_limits, dd_is_name, dd_is_value, dd_tokens, dd__token, dd__row, dd__is_number, dd_Line___init__, dd_Line_is_over, dd_Line_text, dd_Line_is_number, dd_Line_skip, dd_Line_take, dd_Line_finish, dd_Line_begin_part, dd_Line_end_part, dd_Line_take_number, dd_Line_take_integer, dd_Line_near_name, dd_Line_take_new_name, dd_Line_near_known_name, dd_Thread___init__, dd_Program___init__, dd_read_program, dd_OpenList___init__, dd_Reader___init__, dd_Reader_read_line, dd_Reader_may_begin, dd_Reader_declare_cell, dd_Reader_begin_thread, dd_Reader_declare_local, dd_Reader_end_list, dd_Reader_add_statements, dd_Reader_begin_list, dd__law_draws, dd__law_take, dd__law_same, dd__law_keys, dd__law_names, dd__law_number, dd__law_exp, dd__law_sign, dd__law_part, dd__law_index, dd__law_written, dd__law_boxed, dd__law_loose, dd__law_read, dd_law]
def fa : List He.Fa := [.glo "parts_of", .glo "lists_of", .glo "write_expression", .glo "_pieces", .glo "_part", .glo "read_expression", .glo "read_index", .glo "_read_and", .glo "_read_not", .glo "_read_comparison", .glo "_read_sum", .glo "_read_product", .glo "_read_sign", .glo "_read_atom", .glo "_read_parentheses", .glo "read_cell", .glo "_read_plain_cell", .glo "read_statements", .glo "may_stand", .glo "may_declare", .glo "_read_later", .glo "_read_atomic", .glo "measure", .glo "are_within_limits", .glo "is_name", .glo "is_value", .glo "tokens", .glo "_token", .glo "_row", .glo "_is_number", .mkr "Line", .meth "Line" "is_over", .meth "Line" "text", .meth "Line" "is_number", .meth "Line" "skip", .meth "Line" "take", .meth "Line" "finish", .meth "Line" "begin_part", .meth "Line" "end_part", .meth "Line" "take_number", .meth "Line" "take_integer", .meth "Line" "near_name", .meth "Line" "take_new_name", .meth "Line" "near_known_name", .mkr "Thread", .mkr "Program", .glo "read_program", .mkr "OpenList", .mkr "Reader", .meth "Reader" "read_line", .meth "Reader" "may_begin", .meth "Reader" "declare_cell", .meth "Reader" "begin_thread", .meth "Reader" "declare_local", .meth "Reader" "end_list", .meth "Reader" "add_statements", .meth "Reader" "begin_list", .glo "_law_draws", .glo "_law_take", .glo "_law_same", .glo "_law_keys", .glo "_law_names", .glo "_law_number", .glo "_law_exp", .glo "_law_sign", .glo "_law_part", .glo "_law_index", .glo "_law_written", .glo "_law_boxed", .glo "_law_loose", .glo "_law_read", .glo "law", .glo "Line", .cls "Line", .noat "Line" "number", .noat "Line" "found", .noat "Line" "behind", .noat "Line" "place", .noat "Line" "many_open", .noat "Line" "cells", .noat "Line" "variables", .noat "Line" "in_block", .glo "Thread", .cls "Thread", .noat "Thread" "name", .noat "Thread" "variables", .noat "Thread" "body", .glo "Program", .cls "Program", .noat "Program" "cells", .noat "Program" "threads", .glo "OpenList", .cls "OpenList", .noat "OpenList" "head", .noat "OpenList" "rows", .noat "OpenList" "in_block", .noat "OpenList" "turn", .noat "OpenList" "other", .glo "Reader", .cls "Reader", .noat "Reader" "cells", .noat "Reader" "declared", .noat "Reader" "threads", .noat "Reader" "name", .noat "Reader" "variables", .noat "Reader" "statements", .noat "Reader" "lists", .free "len", .free "abs", .free "int", .free "list", .free "reversed", .free "range", .free "isinstance", .free "tuple", .free "str", .free "bool", .free "max", .free "sum", .free "enumerate", .free "all", .str "LETTERS" "abcdefghijklmnopqrstuvwxyz", .str "DIGITS" "0123456789", .int "LONGEST" 12, .int "MOST_DIGITS" 10, .int "LEAST" (-1000000000), .int "GREATEST" 1000000000, .int "MOST_THREADS" 6, .int "MOST_CELLS" 24, .int "MOST_LOCALS" 10, .int "MOST_STATEMENTS" 80, .int "MOST_LISTS" 6, .int "MOST_REPEATS" 2, .int "MOST_OPEN" 20, .int "MOST_CHARACTERS" 20000, .glo "SIGNS", .glo "LONG_SIGNS", .glo "KEY_WORDS", .glo "COMPARISONS", .glo "SUMS", .glo "PRODUCTS", .glo "THREAD_FORMS", .glo "BLOCK_FORMS", .glo "LEAVES", .glo "OPERATORS"]
def exF (K : PySem.W.Frag) : Bool := He.tupB K "LEAVES" [.str "number", .str "local", .str "slot"] && (He.tupB K "SIGNS" [.str "<", .str "=", .str ">", .str "+", .str "-", .str "*", .str "/", .str "(", .str ")"] && (He.tupB K "LONG_SIGNS" [.str "<=", .str ">="] && (He.tupB K "KEY_WORDS" [.str "cell", .str "thread", .str "local", .str "set", .str "put", .str "say", .str "later", .str "pause", .str "if", .str "else", .str "end", .str "repeat", .str "atomic", .str "within", .str "late", .str "choose", .str "or", .str "and", .str "not", .str "rest", .str "retry", .str "undo", .str "semaphore", .str "barrier", .str "channel", .str "exchange", .str "take", .str "give", .str "meet", .str "send", .str "receive", .str "swap"] && (He.valsB K (He.ga K "COMPARISONS") [("<", .str "less"), ("<=", .str "atmost"), ("=", .str "same"), (">", .str "less"), (">=", .str "atmost")] && (He.eqO (PySem.W.nsIn K (He.ga K "COMPARISONS") "") (some none) && (He.eqO (PySem.W.nsIn K (He.ga K "COMPARISONS") ")") (some none) && (He.eqO (PySem.W.nsIn K (He.ga K "COMPARISONS") "+") (some none) && (He.eqO (PySem.W.nsIn K (He.ga K "COMPARISONS") "-") (some none) && (He.eqO (PySem.W.nsIn K (He.ga K "COMPARISONS") "*") (some none) && (He.eqO (PySem.W.nsIn K (He.ga K "COMPARISONS") "/") (some none) && (He.eqO (PySem.W.nsIn K (He.ga K "COMPARISONS") "rest") (some none) && (He.eqO (PySem.W.nsIn K (He.ga K "COMPARISONS") "and") (some none) && (He.eqO (PySem.W.nsIn K (He.ga K "COMPARISONS") "or") (some none) && (He.valsB K (He.ga K "SUMS") [("+", .str "plus"), ("-", .str "minus")] && (He.eqO (PySem.W.nsIn K (He.ga K "SUMS") "") (some none) && (He.eqO (PySem.W.nsIn K (He.ga K "SUMS") ")") (some none) && (He.eqO (PySem.W.nsIn K (He.ga K "SUMS") "*") (some none) && (He.eqO (PySem.W.nsIn K (He.ga K "SUMS") "/") (some none) && (He.eqO (PySem.W.nsIn K (He.ga K "SUMS") "rest") (some none) && (He.eqO (PySem.W.nsIn K (He.ga K "SUMS") "<") (some none) && (He.eqO (PySem.W.nsIn K (He.ga K "SUMS") "<=") (some none) && (He.eqO (PySem.W.nsIn K (He.ga K "SUMS") "=") (some none) && (He.eqO (PySem.W.nsIn K (He.ga K "SUMS") ">") (some none) && (He.eqO (PySem.W.nsIn K (He.ga K "SUMS") ">=") (some none) && (He.eqO (PySem.W.nsIn K (He.ga K "SUMS") "and") (some none) && (He.eqO (PySem.W.nsIn K (He.ga K "SUMS") "or") (some none) && (He.valsB K (He.ga K "PRODUCTS") [("*", .str "times"), ("/", .str "over"), ("rest", .str "rest")] && (He.eqO (PySem.W.nsIn K (He.ga K "PRODUCTS") "") (some none) && (He.eqO (PySem.W.nsIn K (He.ga K "PRODUCTS") ")") (some none) && (He.eqO (PySem.W.nsIn K (He.ga K "PRODUCTS") "+") (some none) && (He.eqO (PySem.W.nsIn K (He.ga K "PRODUCTS") "-") (some none) && (He.eqO (PySem.W.nsIn K (He.ga K "PRODUCTS") "<") (some none) && (He.eqO (PySem.W.nsIn K (He.ga K "PRODUCTS") "<=") (some none) && (He.eqO (PySem.W.nsIn K (He.ga K "PRODUCTS") "=") (some none) && (He.eqO (PySem.W.nsIn K (He.ga K "PRODUCTS") ">") (some none) && (He.eqO (PySem.W.nsIn K (He.ga K "PRODUCTS") ">=") (some none) && (He.eqO (PySem.W.nsIn K (He.ga K "PRODUCTS") "and") (some none) && (He.eqO (PySem.W.nsIn K (He.ga K "PRODUCTS") "or") (some none) && (He.valsB K (He.ga K "THREAD_FORMS") [("atomic", .adr fun K => He.fAd K ("_read_atomic", none))] && (He.valsB K (He.ga K "BLOCK_FORMS") [("later", .adr fun K => He.fAd K ("_read_later", none))] && (He.valsB K (He.ga K "OPERATORS") [("plus", .str "+"), ("minus", .str "-"), ("times", .str "*"), ("over", .str "/"), ("rest", .str "rest"), ("less", .str "<"), ("atmost", .str "<="), ("same", .str "="), ("and", .str "and"), ("or", .str "or")] && (true))))))))))))))))))))))))))))))))))))))))))
def tf : List He.Defn := [("is_name", none)]
abbrev R : PySem.W.OpenRow := PySem.W.OpenLaw.row PySem.Challenge.rw_handshaker_k01_expressions_written_and_r
abbrev hk : PySem.W.Hook := YF.hookZ fa fn ts tf exF
def ob (s : PySem.W.SharedT) : He.AlX := YF.obsZ fa fn ts tf exF (HandSHeadRun.getT s)
theorem ob_eq (s : PySem.W.SharedT) : ob s = hk.obs s.abs := YF.obsZ_eq (HandSHeadRun.getT_eq s)
def loose : List PySem.Str := (["parts_of", "lists_of", "write_expression", "_pieces", "_part", "read_expression", "read_index", "_read_and", "_read_not", "_read_comparison", "_read_sum", "_read_product", "_read_sign", "_read_atom", "_read_parentheses", "semaphore", "barrier", "channel", "exchange", "take", "give", "meet", "send", "receive", "swap", "_block", "_retry_if", "_one_more", "read_cell", "_read_plain_cell"] : List PySem.Str) ++ (["_counted_cell", "read_statements", "may_stand", "may_declare", "_read_set", "_read_put", "_read_say", "_read_pause", "_read_later", "_read_retry", "_read_undo", "_read_if", "_read_repeat", "_read_atomic", "_read_choose", "_read_take", "_read_give", "_read_meet", "_read_send", "_read_receive", "_read_swap", "measure", "are_within_limits", "is_name", "is_value", "tokens", "_token", "_row", "_is_number", "read_program"] : List PySem.Str) ++ (["_law_draws", "_law_take", "_law_same", "_law_keys", "_law_names", "_law_number", "_law_exp", "_law_sign", "_law_part", "_law_index", "_law_written", "_law_boxed", "_law_loose", "_law_read", "HandshakerError", "TextError", "TooLarge", "InvalidCount", "Line", "Thread", "Program", "OpenList", "Reader", "LEAVES", "OPERATORS", "COMPARISONS", "SUMS", "PRODUCTS", "ZERO", "ONE"] : List PySem.Str) ++ (["TWO", "THREAD_FORMS", "BLOCK_FORMS", "MOST_THREADS", "MOST_CELLS", "MOST_LOCALS", "MOST_STATEMENTS", "MOST_LISTS", "MOST_REPEATS", "LETTERS", "LONGEST", "KEY_WORDS", "LEAST", "GREATEST", "DIGITS", "MOST_DIGITS", "SIGNS", "LONG_SIGNS", "MOST_OPEN", "MOST_CHARACTERS"] : List PySem.Str)
theorem run_false (w : World) : HandSHeadRun.RunEq R (PySem.W.view R.prog [124]) hk ob 9000 loose (w.withFollow "special-get-raises" false) := by
  intro os
  kernel_rfl
theorem run_true (w : World) : HandSHeadRun.RunEq R (PySem.W.view R.prog [124]) hk ob 9000 loose (w.withFollow "special-get-raises" true) := by
  intro os
  kernel_rfl
theorem run (w : World) : HandSHeadRun.RunEq R (PySem.W.view R.prog [124]) hk ob 9000 loose w := PySem.W.byRow2 "special-get-raises" (P := fun w => HandSHeadRun.RunEq R (PySem.W.view R.prog [124]) hk ob 9000 loose w) run_false run_true w
end K01

set_option linter.all false
set_option maxHeartbeats 2000000
/-! a list != [] -/
namespace YF
open PySem PySem.SeqAt L2
variable {X : Cx}
def rNeE (K : PySem.W.Frag) : R2 := fun x y H Q => ∃ a b xs, x = .ref a ∧ y = .ref b ∧ SqL K H a xs ∧ SqL K H b [] ∧ Q (.bl (!xs.isEmpty)) H
theorem op_neE (hu : X.A.units + 64 < cLine) : OpR X (compareOp .NotEq) (rNeE X.K) := by
  intro pins s σ H x y v u Q I rx ry h
  obtain ⟨a, b, xs, rfl, rfl, ha, hb, q⟩ := h
  cases xs with
  | nil => exact op_neD hu pins s σ H _ _ v u Q I rx ry ⟨.list [], .list [], .lst ha .nil, .lst hb .nil, rfl, rfl, by simpa [PyData.eqv, PyData.eqvAll] using q⟩
  | cons z zs =>
    cases (show v = Value.ref a from rx)
    cases (show u = Value.ref b from ry)
    obtain ⟨us, r1, p1, _⟩ := I.list ha
    obtain ⟨ws, r2, p2, _⟩ := I.list hb
    have hsz : us.toArray.size ≠ ws.toArray.size := by
      rw [List.size_toArray, List.size_toArray, ← r1.length, ← r2.length]
      exact Nat.succ_ne_zero _
    show wpAny _ _ (richCompare .NotEq (Value.ref a) (Value.ref b)) _ _ _
    exact RcNeAt.lists_lengths (A := X.A) p1.isList p2.isList (by simpa using hsz) (by omega) _ _ _ _ ⟨.bl true, H, I, rfl, q⟩
end YF

namespace K01
open PySem L2 YF
section
variable {P : Program} {w : World} {K : PySem.W.Frag} {mg : Str → Option Value} {base : Heap} {A : Adr}
/-! ### values -/
def spValue (K : PySem.W.Frag) : Sp := fun vs H Q _ => ∃ n : Int, vs = [.int n] ∧ Q (.bl (decide (-1000000000 ≤ n ∧ n ≤ 1000000000))) H
theorem ok_is_value (T : Txt K mg A) : FnOk P w K mg base CX0 1 A.a_is_value A.d_is_value ["value"] (spValue K) := by
  refine T.F_is_value.ok sc_is_value (fun vs H Q E ⟨_, e, _⟩ => by rw [e]; rfl) (fun cdv A' outer s H vs Q E hr h => ?_)
  obtain ⟨n, rfl, k⟩ := h
  refine ⟨_, pss_cons (ps_if (PW.pt (pw_or (pt_val (pe_callB call_isi (by rfl) T.n_isinstance (by decide +kernel) (pa_cons (pv 0) (pa_cons (pe_bltn (v := .ty "bool") (by rfl) T.n_bool (by decide +kernel) rfl) pa_nil)))) (pw_or1 (pt_not (pt_val (pe_callB call_isi (by rfl) T.n_isinstance (by decide +kernel) (pa_cons (pv 0) (pa_cons (pe_bltn (v := .ty "int") (by rfl) T.n_int (by decide +kernel) rfl) pa_nil))))))))
  (pss_one (ps_ret (pe_bl)))
  (pss_nil))
  (pss_one (ps_ret (pe_chain op_le op_le (pe_glob (v := .int (-1000000000)) rfl T.g_LEAST ⟨_, rfl⟩) (pv 0) (pe_glob (v := .int 1000000000) rfl T.g_GREATEST ⟨_, rfl⟩)))), ?_⟩
  have ty : TyX K H (.int n) (.type "int") := .base (.int _)
  have kb : PySem.W.kitOne K (.type "int") (.type "bool") = some false := kit_ty (by decide +kernel)
  have ki : PySem.W.kitOne K (.type "int") (.type "int") = some true := kit_ty (by decide +kernel)
  refine ⟨_, rfl, _, _, _, _, _, rfl, .ty _, ty, kb, _, rfl, iteF ⟨_, rfl, _, _, _, _, _, rfl, .ty _, ty, ki, _, rfl, ?_⟩⟩
  refine iteF ?_
  refine go_next ?_
  dsimp only
  refine ⟨_, rfl, _, _, rfl, rfl, _, rfl, ite2 (fun h1 => ?_) fun h1 => ?_⟩
  · refine ⟨_, _, rfl, rfl, ?_⟩
    have h2 := of_decide_eq_true h1
    rw [show decide (-1000000000 ≤ n ∧ n ≤ 1000000000) = decide (n ≤ 1000000000) by simp [h2]] at k
    exact k
  · have h2 : ¬ -1000000000 ≤ n := fun q => h1 (decide_eq_true q)
    rw [show decide (-1000000000 ≤ n ∧ n ≤ 1000000000) = false by simp [h2]] at k
    exact k
theorem cut_mid {z : Str} {a e : Nat} (h1 : a ≤ z.length) (h2 : e ≤ z.length) : cutS z (some (a : Int)) (some (e : Int)) = mk (((cs z).drop a).take (e - a)) := by
  have i1 : HT.sIx z.length 0 (some (a : Int)) = a := by
    unfold HT.sIx
    dsimp only
    rw [if_neg (by omega), Int.toNat_natCast]
    omega
  have i2 : HT.sIx z.length z.length (some (e : Int)) = e := by
    unfold HT.sIx
    dsimp only
    rw [if_neg (by omega), Int.toNat_natCast]
    omega
  unfold cutS
  rw [i1, i2]
  rfl
/-! ### a row of characters of one kind -/
def spRow (K : PySem.W.Frag) : Sp := fun vs H Q _ => ∃ (z ch : Str) (a : Nat), vs = [.str z, .int a, .str ch] ∧ a ≤ z.length ∧ z.length ≤ 1000 ∧ Q (.str (mk (rowOf ch ((cs z).drop a)))) H
theorem ok_row (T : Txt K mg A) : FnOk P w K mg base CX0 1 A.a__row A.d__row ["line", "at", "characters"] (spRow K) := by
  refine T.F__row.ok sc_row (fun vs H Q E ⟨_, _, _, e, _⟩ => by rw [e]; rfl) (fun cdv A' outer s H vs Q E hr h => ?_)
  obtain ⟨z, ch, a, rfl, h1, h2, k⟩ := h
  refine ⟨_, pss_cons (ps_set (i := 3) sc_row.nd rfl (Or.inl rfl) (pv 1))
  (pss_cons (ps_while PassesOwn.never (PW.pt (pw_and (pt_cmpR op_lt (pv 3) (pe_callB call_len_str (by rfl) T.n_len (by decide +kernel) (pa_cons (pv 0) pa_nil)) (nomark _)) (pw_and1 (pt_cmpR op_in_sign (pe_ix ix_str (pv 0) (pv 3) (fun _ _ => rfl)) (pv 2) (by rfl)))))
  (pss_one (ps_aug (i := 3) sc_row.nd rfl (Or.inl rfl) (pe_int) ip_add)))
  (pss_one (ps_ret (pe_slice sl_str (pv 0) (po_some (pv 1)) (po_some (pv 3)))))), ?_⟩
  refine ⟨_, rfl, ?_⟩
  dsimp only [gName]
  refine ⟨fun m σ H' => ∃ e : Nat, σ = [some (.str z), some (.int a), some (.str ch), some (.int e)] ∧ H' = H ∧ m = z.length - e ∧ a ≤ e ∧ e ≤ z.length ∧ rowOf ch ((cs z).drop a) = ((cs z).drop a).take (e - a) ++ rowOf ch ((cs z).drop e), ⟨_, a, rfl, rfl, rfl, Nat.le_refl _, h1, by simp⟩, ?_⟩
  rintro m σ H' ⟨e, rfl, rfl, rfl, l1, l2, er⟩
  have fin : rowOf ch ((cs z).drop e) = [] → tRet (tSl rSlS (tVar 0) (tPart (tVar 1)) (tPart (tVar 3))) { nx := fun _ H' => Q V.non H', rt := Q } [some (.str z), some (.int a), some (.str ch), some (.int e)] H' := fun he => by
    rw [he, List.append_nil] at er
    refine ⟨_, rfl, ?_⟩
    refine ⟨_, rfl, _, rfl, ?_⟩
    refine ⟨_, rfl, _, rfl, ?_⟩
    refine ⟨z, rfl, by rw [sizeLine_eq]; omega, ?_⟩
    rw [cut_mid h1 l2, ← er]
    exact k
  refine ⟨_, rfl, _, rfl, z, rfl, by rw [sizeLine_eq]; omega, _, _, rfl, rfl, _, rfl, ite2 (fun hl => ?_) fun hl => ?_⟩
  · have hl' : e < z.length := by have := of_decide_eq_true hl; omega
    have hc : e < (cs z).length := by rw [← len_cs]; exact hl'
    have dr : (cs z).drop e = (cs z)[e] :: (cs z).drop (e + 1) := List.drop_eq_getElem_cons hc
    refine ⟨_, rfl, _, rfl, z, _, (cs z)[e], rfl, rfl, by rw [sizeLine_eq]; omega, atI_nat (List.getElem?_eq_getElem hc), _, rfl, _, ch, rfl, rfl, _, rfl, ite2 (fun hin => ?_) fun hin => ?_⟩
    · refine ⟨fun σ H1 => σ = [some (.str z), some (.int a), some (.str ch), some (.int (e + 1 : Nat))] ∧ H1 = H', ?_, ?_⟩
      · rintro σ H1 ⟨rfl, rfl⟩
        refine ⟨_, by omega, e + 1, rfl, rfl, rfl, by omega, by omega, ?_⟩
        rw [er, dr]
        have r1 : rowOf ch ((cs z)[e] :: (cs z).drop (e + 1)) = (cs z)[e] :: rowOf ch ((cs z).drop (e + 1)) := by
          unfold rowOf
          rw [List.takeWhile_cons_of_pos (by exact hin)]
        rw [r1]
        have t1 : ((cs z).drop a).take (e + 1 - a) = ((cs z).drop a).take (e - a) ++ [(cs z)[e]] := by
          have e2 : e + 1 - a = (e - a) + 1 := by omega
          rw [e2, List.take_add_one, List.getElem?_drop, show a + (e - a) = e by omega, List.getElem?_eq_getElem hc]
          rfl
        rw [t1, List.append_assoc]
        rfl
      · exact ⟨_, rfl, _, _, rfl, rfl, rfl, rfl⟩
    · refine fin ?_
      rw [dr]
      unfold rowOf
      rw [List.takeWhile_cons_of_neg (by exact hin)]
  · have he : e = z.length := by
      have q : ¬ ((e : Int) < z.length) := fun q => hl (decide_eq_true q)
      omega
    refine iteF (fin ?_)
    rw [he, len_cs, List.drop_length]
    rfl
def spIsNum (K : PySem.W.Frag) : Sp := fun vs H Q _ => ∃ (z : Str) (b : Bool), vs = [.str z] ∧ 0 < z.length ∧ z.length ≤ 640 ∧ numB z = some b ∧ Q (.bl b) H
theorem ok_is_number (T : Txt K mg A) : FnOk P w K mg base CX0 2 A.a__is_number A.d__is_number ["digits"] (spIsNum K) := by
  refine T.F__is_number.ok sc_is_number (fun vs H Q E ⟨_, _, e, _⟩ => by rw [e]; rfl) (fun cdv A' outer s H vs Q E hr h => ?_)
  obtain ⟨z, b, rfl, h0, h1, hb, k⟩ := h
  refine ⟨_, pss_cons (ps_if (pt_cmpR op_gt (pe_callB call_len_str (by rfl) T.n_len (by decide +kernel) (pa_cons (pv 0) pa_nil)) (pe_glob (v := .int 10) rfl T.g_MOST_DIGITS ⟨_, rfl⟩) (nomark _))
  (pss_one (ps_ret (pe_bl)))
  (pss_nil))
  (pss_cons (ps_if (PW.pt (pw_and (pt_cmpR op_eq (pe_ix ix_str (pv 0) (pe_int) (fun _ _ => rfl)) (pe_str) (nomark _)) (pw_and1 (pt_cmpR op_gt (pe_callB call_len_str (by rfl) T.n_len (by decide +kernel) (pa_cons (pv 0) pa_nil)) (pe_int) (nomark _)))))
  (pss_one (ps_ret (pe_bl)))
  (pss_nil))
  (pss_one (ps_ret (pe_call (ok_is_value T) (hr.mono (by decide)) rfl T.g_is_value T.F_is_value.kp T.b_is_value .nil pass0 (pa_cons (pe_callTy call_int_str (by rfl) T.n_int (by decide +kernel) (pa_cons (pv 0) pa_nil)) pa_nil))))), ?_⟩
  have bd : z.length ≤ sizeLine := by rw [sizeLine_eq]; omega
  obtain ⟨c, l, hc⟩ : ∃ c l, cs z = c :: l := by
    cases e : cs z with
    | nil => exact absurd e (ne_nil h0)
    | cons c l => exact ⟨c, l, rfl⟩
  have ha : atI z.cps.toList 0 = some c := by
    have : atI z.cps.toList ((0 : Nat) : Int) = some c := atI_nat (by show (cs z)[0]? = _; rw [hc]; rfl)
    exact this
  unfold numB at hb
  refine ⟨_, rfl, z, rfl, bd, _, _, rfl, rfl, _, rfl, ite3 (fun h2 => ?_) fun h2 => ?_⟩
  · have h3 : 10 < z.length := by have := of_decide_eq_true h2; omega
    rw [if_pos h3] at hb
    cases hb
    exact k
  · have h3 : ¬ 10 < z.length := fun q => by
      have := of_decide_eq_false h2
      omega
    rw [if_neg h3, hc] at hb
    refine go_next ?_
    dsimp only
    refine if_seq (tt_and (tt_test (te_eq (te_ixs (te_var rfl) te_c bd ha) te_c rfl)) fun _ => tt_test (te_i0 (te_lens (te_var rfl) bd) te_c)) (fun h => ?_) fun h => ?_
    · simp only [Bool.and_eq_true, decide_eq_true_eq] at h
      have hc0 : c = 48 := (one_eq (by decide +kernel)).mp h.1
      rw [if_pos ⟨by rw [hc0]; rfl, by omega⟩] at hb
      cases hb
      exact k
    · have hn : ¬ ((c :: l).head? = some 48 ∧ 1 < z.length) := fun ⟨q1, q2⟩ => by
        have hc0 : c = 48 := by simpa using q1
        have e1 : decide (V.str ⟨#[c]⟩ = V.str "0") = true := decide_eq_true ((one_eq (by decide +kernel)).mpr hc0)
        have e2 : decide ((1 : Int) < z.length) = true := decide_eq_true (by omega)
        rw [e1, e2] at h
        cases h
      rw [if_neg hn] at hb
      cases hi : PySem.intText? z with
      | none => rw [hi] at hb; cases hb
      | some n =>
        rw [hi] at hb
        cases hb
        exact ⟨_, rfl, z, n, rfl, hi, h1, n, rfl, k⟩
def spTok (K : PySem.W.Frag) : Sp := fun vs H Q _ => ∃ (z : Str) (a : Nat) (n : Int) (k t : Str), vs = [.str z, .int a, .int n] ∧ a < z.length ∧ z.length ≤ 640 ∧ tok1 ((cs z).drop a) = some (.tok k t) ∧ ∀ p, H p = none → Q (.ref p) (upd H p (.tup [.str k, .str t]))
theorem tok1_eq {l : Cs} {c : Nat} {r : Cs} (e : l = c :: r) : tok1 l = if inS lets c = true then (if 12 < (rowOf lets l).length then some (.bad "word") else some (.tok "word" (mk (rowOf lets l))))
    else if inS digs c = true then
      match numB (mk (rowOf digs l)) with
      | none => none
      | some true => some (.tok "number" (mk (rowOf digs l)))
      | some false => some (.bad "number")
    else if mk (l.take 2) ∈ longs then some (.tok "sign" (mk (l.take 2)))
    else if mk [c] ∈ signs then some (.tok "sign" (mk [c]))
    else some (.bad "character") := by
  subst e
  rfl
theorem ok_token (T : Txt K mg A) : FnOk P w K mg base CX0 4 A.a__token A.d__token ["line", "at", "number"] (spTok K) := by
  refine T.F__token.ok (k := 3) sc_token (fun vs H Q E ⟨_, _, _, _, _, e, _⟩ => by rw [e]; rfl) (fun cdv A' outer s H vs Q E hr h => ?_)
  obtain ⟨z, a, n, k0, t0, rfl, ha, hz, ho, kk⟩ := h
  obtain ⟨o, eo0⟩ : ∃ o, o = One.tok k0 t0 := ⟨_, rfl⟩
  rw [← eo0] at ho
  have kT : ∀ k t, o = .tok k t → ∀ p, H p = none → Q (.ref p) (upd H p (.tup [.str k, .str t])) := fun k t e => by
    rw [eo0] at e
    cases e
    exact kk
  have nB : ∀ {r : Str}, One.bad r = o → False := fun e => by
    rw [eo0] at e
    cases e
  refine ⟨_, pss_cons (ps_if (pt_cmpR op_in_sign (pe_ix ix_str (pv 0) (pv 1) (fun _ _ => rfl)) (pe_glob (v := .str "abcdefghijklmnopqrstuvwxyz") rfl T.g_LETTERS ⟨_, rfl⟩) (by rfl))
  (pss_cons (ps_set (i := 3) sc_token.nd rfl (Or.inl rfl) (pe_call (ok_row T) (hr.mono (by decide)) rfl T.g__row T.F__row.kp T.b__row .nil pass0 (pa_cons (pv 0) (pa_cons (pv 1) (pa_cons (pe_glob (v := .str "abcdefghijklmnopqrstuvwxyz") rfl T.g_LETTERS ⟨_, rfl⟩) pa_nil)))))
  (pss_cons (ps_if (pt_cmpR op_gt (pe_callB call_len_str (by rfl) T.n_len (by decide +kernel) (pa_cons (pv 3) pa_nil)) (pe_glob (v := .int 12) rfl T.g_LONGEST ⟨_, rfl⟩) (nomark _))
  (pss_one (ps_dead))
  (pss_nil))
  (pss_one (ps_ret (pe_tup (pa_cons (pe_str) (pa_cons (pv 3) pa_nil)))))))
  (pss_nil))
  (pss_cons (ps_if (pt_cmpR op_in_sign (pe_ix ix_str (pv 0) (pv 1) (fun _ _ => rfl)) (pe_glob (v := .str "0123456789") rfl T.g_DIGITS ⟨_, rfl⟩) (by rfl))
  (pss_cons (ps_set (i := 3) sc_token.nd rfl (Or.inl rfl) (pe_call (ok_row T) (hr.mono (by decide)) rfl T.g__row T.F__row.kp T.b__row .nil pass0 (pa_cons (pv 0) (pa_cons (pv 1) (pa_cons (pe_glob (v := .str "0123456789") rfl T.g_DIGITS ⟨_, rfl⟩) pa_nil)))))
  (pss_cons (ps_if (pt_not (pt_val (pe_call (ok_is_number T) (hr.mono (by decide)) rfl T.g__is_number T.F__is_number.kp T.b__is_number .nil pass0 (pa_cons (pv 3) pa_nil))))
  (pss_one (ps_dead))
  (pss_nil))
  (pss_one (ps_ret (pe_tup (pa_cons (pe_str) (pa_cons (pv 3) pa_nil)))))))
  (pss_nil))
  (pss_cons (ps_if (pt_cmpR op_in_seq (pe_slice sl_str (pv 0) (po_some (pv 1)) (po_some (pe_op op_add (pv 1) (pe_int)))) (pe_glob (v := .ref A.a_LONG_SIGNS) rfl T.g_LONG_SIGNS rfl) (by rfl))
  (pss_one (ps_ret (pe_tup (pa_cons (pe_str) (pa_cons (pe_slice sl_str (pv 0) (po_some (pv 1)) (po_some (pe_op op_add (pv 1) (pe_int)))) pa_nil)))))
  (pss_nil))
  (pss_cons (ps_if (pt_cmpR op_in_seq (pe_ix ix_str (pv 0) (pv 1) (fun _ _ => rfl)) (pe_glob (v := .ref A.a_SIGNS) rfl T.g_SIGNS rfl) (by rfl))
  (pss_one (ps_ret (pe_tup (pa_cons (pe_str) (pa_cons (pe_ix ix_str (pv 0) (pv 1) (fun _ _ => rfl)) pa_nil)))))
  (pss_nil))
  (pss_one (ps_dead))))), ?_⟩
  have bd : z.length ≤ sizeLine := by rw [sizeLine_eq]; omega
  have hc : a < (cs z).length := by rw [← len_cs]; exact ha
  obtain ⟨c, rest, dr⟩ : ∃ c rest, (cs z).drop a = c :: rest := ⟨_, _, List.drop_eq_getElem_cons hc⟩
  have hat : atI z.cps.toList (a : Int) = some c := atI_nat (by
    show (cs z)[a]? = _
    have q : ((cs z).drop a)[0]? = (cs z)[a]? := by rw [List.getElem?_drop]; rfl
    rw [← q, dr]
    rfl)
  rw [tok1_eq dr] at ho
  have rl : ∀ ch, (rowOf ch ((cs z).drop a)).length ≤ z.length := fun ch => by
    have q1 : (rowOf ch ((cs z).drop a)).length ≤ ((cs z).drop a).length := List.IsPrefix.length_le (List.takeWhile_prefix _)
    rw [List.length_drop, ← len_cs] at q1
    omega
  have cut2 : cutS z (some (a : Int)) (some ((a : Int) + 2)) = mk (((cs z).drop a).take 2) := by
    have i1 : HT.sIx z.length 0 (some (a : Int)) = a := by
      unfold HT.sIx
      dsimp only
      rw [if_neg (by omega), Int.toNat_natCast]
      omega
    have i2 : HT.sIx z.length z.length (some ((a : Int) + 2)) = min (a + 2) z.length := by
      unfold HT.sIx
      dsimp only
      rw [if_neg (by omega)]
      rfl
    unfold cutS
    rw [i1, i2]
    show mk (List.take _ ((cs z).drop a)) = _
    congr 1
    have q : ((cs z).drop a).length = z.length - a := by rw [List.length_drop, ← len_cs]
    by_cases hh : a + 2 ≤ z.length
    · rw [Nat.min_eq_left hh]
      congr 1
      omega
    · rw [Nat.min_eq_right (by omega), List.take_of_length_le (by omega), List.take_of_length_le (by omega)]
  have ret : ∀ (k t : Str) (H : Hp) (σ : L2.St) (D : Ends) (te : TE), o = .tok k t → Te te σ H (.str t) → (D.rt = Q) → (∀ p, H p = none → Q (.ref p) (upd H p (.tup [.str k, .str t]))) → tRet (tTup (tCons (tC (.str k)) (tCons te tNil))) D σ H := fun k t H σ D te _ hte eD kk =>
    hte _ ⟨by show 2 ≤ sizeLine; decide, fun p hp => by rw [eD]; exact kk p hp⟩
  refine if_seq (tt_test (te_ins (te_ixs (te_var rfl) (te_var rfl) bd hat) te_c)) (fun h => ?_) fun h => ?_
  · rw [if_pos (by exact h)] at ho
    refine ⟨_, rfl, _, rfl, z, lets, a, rfl, by omega, by omega, ?_⟩
    dsimp only [gName]
    refine set_sl (σ' := [some (.str z), some (.int a), some (.int n), some (.str (mk (rowOf lets ((cs z).drop a))))]) rfl ?_
    have bl : (mk (rowOf lets ((cs z).drop a))).length = (rowOf lets ((cs z).drop a)).length := by rw [len_cs, cs_mk]
    refine if_seq (tt_test (te_i0 (te_lens (te_var rfl) (by rw [bl]; exact Nat.le_trans (rl _) bd)) te_c)) (fun h2 => ?_) fun h2 => ?_
    · have h3 : 12 < (rowOf lets ((cs z).drop a)).length := by
        have q := of_decide_eq_true h2
        rw [bl] at q
        omega
      rw [if_pos h3] at ho
      exact nB (Option.some.inj ho)
    · have h3 : ¬ 12 < (rowOf lets ((cs z).drop a)).length := fun q => by
        have q2 := of_decide_eq_false h2
        rw [bl] at q2
        omega
      rw [if_neg h3] at ho
      have eo := (Option.some.inj ho).symm
      exact ret _ _ _ _ _ _ eo (te_var rfl) rfl (kT _ _ eo)
  · rw [if_neg (by intro q; rw [show decide (c ∈ (Str.ofString "abcdefghijklmnopqrstuvwxyz").cps.toList) = true from q] at h; cases h)] at ho
    refine if_seq (tt_test (te_ins (te_ixs (te_var rfl) (te_var rfl) bd hat) te_c)) (fun h1 => ?_) fun h1 => ?_
    · rw [if_pos (by exact h1)] at ho
      refine ⟨_, rfl, _, rfl, z, digs, a, rfl, by omega, by omega, ?_⟩
      dsimp only [gName]
      refine set_sl (σ' := [some (.str z), some (.int a), some (.int n), some (.str (mk (rowOf digs ((cs z).drop a))))]) rfl ?_
      have bl : (mk (rowOf digs ((cs z).drop a))).length = (rowOf digs ((cs z).drop a)).length := by rw [len_cs, cs_mk]
      have b0 : 0 < (rowOf digs ((cs z).drop a)).length := by
        rw [dr]
        unfold rowOf
        rw [List.takeWhile_cons_of_pos (by exact h1)]
        exact Nat.succ_pos _
      cases hn : numB (mk (rowOf digs ((cs z).drop a))) with
      | none => rw [hn] at ho; cases ho
      | some b =>
        rw [hn] at ho
        refine if_seq (tt_not (tt_b (b := b) (fun R r => ⟨_, rfl, _, b, rfl, by rw [bl]; exact b0, by rw [bl]; exact Nat.le_trans (rl _) hz, hn, r⟩))) (fun h2 => ?_) fun h2 => ?_
        · obtain rfl : b = false := by simpa using h2
          exact nB (Option.some.inj ho)
        · obtain rfl : b = true := by simpa using h2
          have eo := (Option.some.inj ho).symm
          exact ret _ _ _ _ _ _ eo (te_var rfl) rfl (kT _ _ eo)
    · rw [if_neg (by intro q; rw [show decide (c ∈ (Str.ofString "0123456789").cps.toList) = true from q] at h1; cases h1)] at ho
      have tcut : ∀ H, Te (tSl rSlS (tVar 0) (tPart (tVar 1)) (tPart (tOp (rI0 fun i j => V.int (i + j)) (tVar 1) (tC (V.int 2))))) (L2.start ["line", "at", "number", "text"] [V.str z, V.int a, V.int n]) H (.str (mk (((cs z).drop a).take 2))) := fun H => by
        rw [← cut2]
        exact te_cut (te_var rfl) (te_var rfl) (te_i0 (te_var rfl) te_c) bd
      refine if_seq (tt_test (te_inT (zs := longs) (tcut _) te_c (.inr (T.z_LONG_SIGNS H)))) (fun h2 => ?_) fun h2 => ?_
      · rw [if_pos (of_decide_eq_true h2)] at ho
        have eo := (Option.some.inj ho).symm
        exact ret _ _ _ _ _ _ eo (tcut _) rfl (kT _ _ eo)
      · rw [if_neg (of_decide_eq_false h2)] at ho
        refine if_seq (tt_test (te_inT (zs := signs) (te_ixs (te_var rfl) (te_var rfl) bd hat) te_c (.inr (T.z_SIGNS H)))) (fun h3 => ?_) fun h3 => ?_
        · rw [if_pos (by exact of_decide_eq_true h3)] at ho
          have eo := (Option.some.inj ho).symm
          exact ret _ _ _ _ _ _ eo (te_ixs (te_var rfl) (te_var rfl) bd hat) rfl (kT _ _ eo)
        · rw [if_neg (by exact of_decide_eq_false h3)] at ho
          exact nB (Option.some.inj ho)
end
end K01

namespace K01
open PySem L2 YF
local macro_rules | `(tactic| walk_at "rd1") => `(tactic| first
  | refine ⟨_, _, rfl, rfl, ?_⟩
  | refine ⟨_, rfl, ?_⟩
  | refine ⟨(show CPow _ _ from ⟨by decide, by decide, by decide⟩), ?_⟩
  | refine ⟨(show CMul _ _ from Or.inr ⟨by decide, by decide⟩), ?_⟩
  | refine ⟨(show CDiv _ _ from ⟨by decide, by decide⟩), ?_⟩
  | refine ⟨(by show (0 : Int) < _; decide), ?_⟩
  | refine Or.inl ⟨_, rfl, ?_⟩)
local macro_rules | `(tactic| walk_at "rd") => `(tactic| repeat (walk_at "rd1"))
local macro_rules | `(tactic| walk_at "ed1") => `(tactic| first
  | exact ev_int | exact ev_str | exact ev_non | exact ev_bl | exact ev_nil
  | (apply ev_at 0
     · assumption
     · rfl
     · rfl)
  | (apply ev_at 1
     · assumption
     · rfl
     · rfl)
  | (apply ev_at 2
     · assumption
     · rfl
     · rfl)
  | (apply ev_at 3
     · assumption
     · rfl
     · rfl)
  | (apply ev_at 4
     · assumption
     · rfl
     · rfl)
  | (apply ev_at 5
     · assumption
     · rfl
     · rfl)
  | (apply ev_at 6
     · assumption
     · rfl
     · rfl)
  | (apply ev_at 7
     · assumption
     · rfl
     · rfl)
  | (apply ev_at 8
     · assumption
     · rfl
     · rfl)
  | (apply ev_at 9
     · assumption
     · rfl
     · rfl)
  | (apply ev_at 10
     · assumption
     · rfl
     · rfl)
  | (apply ev_at 11
     · assumption
     · rfl
     · rfl)
  | (apply ev_val (zero_rp (mg := mg) _ _); assumption)
  | (apply ev_val (one_rp (mg := mg) _ _); assumption)
  | (apply ev_val (two_rp (mg := mg) _ _); assumption)
  | (apply ev_callX
     · walk_at "ed"
     · first | exact trivial | exact ⟨_, rfl⟩ | exact ⟨_, _, rfl⟩ | exact ⟨_, _, _, rfl⟩
     · rfl
     · rfl
     · rfl)
  | (apply ev_cons
     · walk_at "ed"
     · walk_at "ed")
  | (apply ev_tupX
     · walk_at "ed"
     · rfl
     · first | decide | simp [D.len])
  | (apply ev_lstX
     · walk_at "ed"
     · rfl
     · first | decide | simp [D.len])
  | (apply ev_add
     · walk_at "ed"
     · walk_at "ed")
  | (apply ev_sub
     · walk_at "ed"
     · walk_at "ed"))
local macro_rules | `(tactic| walk_at "ed") => `(tactic| walk_at "ed1")
def keysL : List Str := ["cell", "thread", "local", "set", "put", "say", "later", "pause", "if", "else", "end", "repeat", "atomic", "within", "late", "choose", "or", "and", "not", "rest", "retry", "undo", "semaphore", "barrier", "channel", "exchange", "take", "give", "meet", "send", "receive", "swap"]
def NameOk (z : Str) : Prop := 1 ≤ z.length ∧ z.length ≤ 12 ∧ z ∉ keysL ∧ ∀ c ∈ cs z, inS lets c = true
/-! names, pure -/
def abc : Str := "abcdefghijklmnopqrstuvwxyz"
theorem abc_all : ∀ i : Fin 26, abc.cps.toList[i.val]? = some (97 + i.val) ∧ inS lets (97 + i.val) = true := by decide +kernel
theorem abc_in {i : Int} (h0 : 0 ≤ i) (h1 : i < 26) : atI abc.cps.toList i = some (97 + i.toNat) ∧ inS lets (97 + i.toNat) = true := by
  obtain ⟨n, rfl⟩ := Int.eq_ofNat_of_zero_le h0
  have := abc_all ⟨n, by omega⟩
  exact ⟨atI_nat this.1, this.2⟩
def tripl (l : Cs) : Bool := match l.reverse with
  | a :: b :: c :: _ => decide (a = b ∧ b = c)
  | _ => false
theorem keys_tripl : ∀ z ∈ keysL, tripl (cs z) = false := by decide +kernel
/-- names so far -/
def NmI (zs : List Str) : Prop := zs.Nodup ∧ ∀ j z, zs[j]? = some z → NameOk z ∧ (z.length ≤ 4 ∨ (cs z).getLast? = some (97 + j))
/-- a name under way: t letters were put behind it in u looks -/
def NmU (zs : List Str) (u : Nat) (nm : Str) : Prop := ∃ b t, t ≤ 4 ∧ cs nm = b ++ List.replicate t (97 + zs.length) ∧ 1 ≤ b.length ∧ b.length ≤ 4 ∧ (∀ x ∈ b, inS lets x = true) ∧ (t = u ∨ (nm ∉ zs ∧ nm ∉ keysL))
theorem four_out {zs : List Str} {nm : Str} {b : Cs} (h : NmI zs) (e : cs nm = b ++ List.replicate 4 (97 + zs.length)) (hb : 1 ≤ b.length) : nm ∉ zs ∧ nm ∉ keysL := by
  refine ⟨fun m => ?_, fun m => ?_⟩
  · obtain ⟨j, hj, ej⟩ := List.getElem_of_mem m
    obtain ⟨_, h2 | h2⟩ := h.2 j nm (by rw [List.getElem?_eq_getElem hj, ej])
    · rw [len_cs, e, List.length_append, List.length_replicate] at h2
      omega
    · have e4 : cs nm = (b ++ List.replicate 3 (97 + zs.length)) ++ [97 + zs.length] := by rw [e, List.append_assoc]; rfl
      rw [e4, List.getLast?_append, List.getLast?_singleton] at h2
      have h3 : 97 + zs.length = 97 + j := Option.some.inj h2
      omega
  · have := keys_tripl nm m
    unfold tripl at this
    rw [e, List.reverse_append, List.reverse_replicate] at this
    simp [List.replicate] at this
theorem NmU.step {zs : List Str} {u : Nat} {nm nm' : Str} (h : NmI zs) (n : NmU zs u nm) (hf : nm ∈ zs ∨ nm ∈ keysL) (e' : cs nm' = cs nm ++ [97 + zs.length]) : NmU zs (u + 1) nm' := by
  obtain ⟨b, t, t4, e, b1, b4, al, o⟩ := n
  have ht : t = u := by
    rcases o with o | o
    · exact o
    · exact absurd hf (fun q => q.elim o.1 o.2)
  have t3 : t ≠ 4 := fun z => by
    rw [z] at e
    have := four_out h e b1
    exact hf.elim this.1 this.2
  exact ⟨b, t + 1, by omega, by rw [e', e, List.append_assoc, List.replicate_succ'], b1, b4, al, .inl (by omega)⟩
theorem NmU.stay {zs : List Str} {u : Nat} {nm : Str} (n : NmU zs u nm) (h1 : nm ∉ zs) (h2 : nm ∉ keysL) : NmU zs (u + 1) nm := by
  obtain ⟨b, t, t4, e, b1, b4, al, o⟩ := n
  exact ⟨b, t, t4, e, b1, b4, al, .inr ⟨h1, h2⟩⟩
theorem NmU.fin {zs : List Str} {nm : Str} (h : NmI zs) (hl : zs.length < 26) (n : NmU zs 8 nm) : NmI (zs ++ [nm]) := by
  obtain ⟨b, t, t4, e, b1, b4, al, o⟩ := n
  obtain ⟨o1, o2⟩ : nm ∉ zs ∧ nm ∉ keysL := o.resolve_left (by omega)
  have ln : nm.length = b.length + t := by rw [len_cs, e, List.length_append, List.length_replicate]
  refine ⟨?_, fun j z hz => ?_⟩
  · rw [List.nodup_append]
    exact ⟨h.1, List.pairwise_singleton _ _, fun a ha b hb => by rw [List.mem_singleton.mp hb]; exact fun z => o1 (z ▸ ha)⟩
  · by_cases hj : j < zs.length
    · rw [List.getElem?_append_left hj] at hz
      exact h.2 j z hz
    · rw [List.getElem?_append_right (by omega)] at hz
      obtain rfl : j = zs.length := by
        by_cases q : j - zs.length = 0
        · omega
        · rw [List.getElem?_eq_none (by rw [List.length_singleton]; omega)] at hz; cases hz
      rw [Nat.sub_self] at hz
      cases Option.some.inj hz
      have cl := (abc_all ⟨zs.length, hl⟩).2
      refine ⟨⟨by omega, by omega, o2, fun c hc => ?_⟩, ?_⟩
      · rw [e] at hc
        rcases List.mem_append.mp hc with hc | hc
        · exact al c hc
        · rw [(List.mem_replicate.mp hc).2]; exact cl
      · by_cases ht : t = 0
        · exact .inl (by omega)
        · obtain ⟨s, rfl⟩ : ∃ s, t = s + 1 := ⟨t - 1, by omega⟩
          refine .inr ?_
          rw [e, List.replicate_succ', ← List.append_assoc, List.getLast?_append, List.getLast?_singleton]
          rfl
section
variable {P : Program} {w : World} {K : PySem.W.Frag} {mg : Str → Option Value} {base : Heap} {A : Adr}
theorem take_go {B H : Hp} {d : Addr} {b : Int} {Q : VK} {E : XK} (s : Same B H) (o : Off [d] B) (j : Ints [d] H) (hb : 0 < b)
    (k : ∀ z H2, 0 ≤ z → z < b → Grow [d] B H B H2 → Ints [d] H2 → (∀ a, a ≠ d → H2 a = H a) → Q (.int z) H2) : spTake K [.ref d, .int b] H Q E := by
  obtain ⟨ns, h⟩ := j d (List.mem_singleton.mpr rfl)
  refine ⟨d, ns, b, rfl, h, hb, fun z ms H2 h1 h2 h3 => ?_⟩
  rcases h3 with rfl | rfl
  · exact k z _ h1 h2 (Grow.refl s) j fun _ _ => rfl
  · exact k z _ h1 h2 (Grow.wr s (List.mem_singleton.mpr rfl) (o d (List.mem_singleton.mpr rfl))) (fun p m => ⟨ms, by rw [List.mem_singleton.mp m]; exact upd_same⟩) fun a n => upd_ne n
theorem take_call {B H : Hp} {d : Addr} {b : Int} {i : Nat} {te : TE} {σ : L2.St} {Q : VK} {E : XK} (hi : σ[i]? = some (some (.ref d))) (hte : ∀ Q : VK, Q (.int b) H → te σ H Q) (s : Same B H) (o : Off [d] B) (j : Ints [d] H) (hb : 0 < b)
    (k : ∀ z H2, 0 ≤ z → z < b → Grow [d] B H B H2 → Ints [d] H2 → (∀ a, a ≠ d → H2 a = H a) → Q (.int z) H2) : tCall (spTake K) [] E (tCons (tVar i) (tCons te tNil)) σ H Q :=
  ⟨_, hi, hte _ (take_go (K := K) (E := E) s o j hb k)⟩
def spKeys (K : PySem.W.Frag) : Sp := fun vs H Q _ => vs = [] ∧ ∀ (p : Addr), H p = none → Q (.ref p) (upd H p (.lst (keysL.map V.str)))
theorem ok_law_keys (T : Txt K mg A) : FnOk P w K mg base CX0 1 A.a__law_keys A.d__law_keys [] (spKeys K) := by
  refine T.F__law_keys.ok sc_law_keys (fun vs H Q E ⟨e, _⟩ => by rw [e]; rfl) (fun cdv A' outer s H vs Q E hr h => ?_)
  obtain ⟨rfl, k⟩ := h
  refine ⟨_, pss_cons (ps_set (i := 0) sc_law_keys.nd rfl (Or.inl rfl) (pe_str))
  (pss_one (ps_ret (pe_split (pe_op op_add_str (pv 0) (pe_str)) (pe_str)))), ?_⟩
  refine ⟨_, rfl, _, _, rfl, rfl, by decide +kernel, ⟨_, rfl⟩, _, _, rfl, rfl, by decide +kernel, ?_, fun p hp => ?_⟩
  · have e : sizeLine = 16777216 := sizeLine_eq
    rw [e]
    decide +kernel
  · have e : Txt.split ("cell thread local set put say later pause if else end repeat atomic within late choose or and not rest retry" ++ " undo semaphore barrier channel exchange take give meet send receive swap") " " = keysL := by decide +kernel
    have q := k p hp
    rw [← e] at q
    exact q
theorem len_app (a b : Str) : (a ++ b).length = a.length + b.length := by
  show (a.cps ++ b.cps).size = a.cps.size + b.cps.size
  exact Array.size_append
theorem abc_len : abc.length = 26 := by decide +kernel
theorem abc_at {i : Int} (h0 : 0 ≤ i) (h1 : i < 26) : ∃ c, atI abc.cps.toList i = some c := by
  have hl : abc.cps.toList.length = 26 := abc_len
  obtain ⟨n, rfl⟩ := Int.eq_ofNat_of_zero_le h0
  have hn : n < abc.cps.toList.length := by omega
  exact ⟨_, atI_nat (List.getElem?_eq_getElem hn)⟩
theorem flat_strs (zs : List Str) : (zs.map V.str).all flatV = true := by
  induction zs with
  | nil => rfl
  | cons a r ih =>
    rw [List.map_cons, List.all_cons, ih]
    rfl
def strRow (zs : List Str) : D := D.row (zs.map D.str)
theorem strRow_rp {N : Hp} : ∀ zs : List Str, Rp K N (strRow zs) (zs.map V.str)
  | [] => rfl
  | z :: r => ⟨_, _, rfl, rfl, strRow_rp r⟩
/-- drawn names stand at p -/
def NamesAt (B H H' : Hp) (d p : Addr) (zs : List Str) : Prop := Grow [d] B H B H' ∧ Ints [d] H' ∧ H p = none ∧ H' p = some (.lst (zs.map V.str))
theorem NamesAt.new {B H H' : Hp} {d p q : Addr} {zs : List Str} {u : HO} (h : NamesAt B H H' d p zs) (hq : H' q = none) : NamesAt B H (upd H' q u) d p zs := by
  obtain ⟨g, j, h0, e1⟩ := h
  exact ⟨g.trans (Grow.new0 g.nh hq), fun a m => by obtain ⟨ns, e⟩ := j a m; exact ⟨ns, Same.upd hq a _ e⟩, h0, Same.upd hq p _ e1⟩
def spNames (K : PySem.W.Frag) : Sp := fun vs H Q _ => ∃ (B : Hp) (d : Addr) (n : Nat), vs = [.ref d, .int n] ∧ n ≤ 26 ∧ Same B H ∧ Off [d] B ∧ Ints [d] H ∧
  ∀ (p : Addr) (zs : List Str) (H' : Hp), Grow [d] B H B H' → Ints [d] H' → H p = none → H' p = some (.lst (zs.map V.str)) → zs.length = n → NmI zs → Q (.ref p) H'
theorem ok_law_names (T : Txt K mg A) : FnOk P w K mg base CX0 2 A.a__law_names A.d__law_names ["draws", "many"] (spNames K) := by
  refine T.F__law_names.ok sc_law_names (fun vs H Q E ⟨_, _, _, e, _⟩ => by rw [e]; rfl) (fun cdv A' outer s H vs Q E hr h => ?_)
  obtain ⟨B, d, n, rfl, hn, sBH, o, j, k⟩ := h
  refine ⟨_, pss_cons (ps_set (i := 2) sc_law_names.nd rfl (Or.inl rfl) (pe_str))
  (pss_cons (ps_set (i := 3) sc_law_names.nd rfl (Or.inl rfl) (pe_lst pa_nil))
  (pss_cons (ps_for PassesOwn.never rfl (pi_range1 (by rfl) T.n_range (pa_cons (pv 1) pa_nil)) (pg_name (i := 4) sc_law_names.nd rfl (Or.inl rfl))
  (pss_cons (ps_set (i := 5) sc_law_names.nd rfl (Or.inl rfl) (pe_ix ix_str (pv 2) (pe_call (ok_law_take T) (hr.mono (by decide)) rfl T.g__law_take T.F__law_take.kp T.b__law_take .nil pass0 (pa_cons (pv 0) (pa_cons (pe_int) pa_nil))) (fun _ _ => rfl)))
  (pss_cons (ps_for PassesOwn.never rfl (pi_range1 (by rfl) T.n_range (pa_cons (pe_call (ok_law_take T) (hr.mono (by decide)) rfl T.g__law_take T.F__law_take.kp T.b__law_take .nil pass0 (pa_cons (pv 0) (pa_cons (pe_int) pa_nil))) pa_nil)) (pg_name (i := 6) sc_law_names.nd rfl (Or.inl rfl))
  (pss_one (ps_set (i := 5) sc_law_names.nd rfl (Or.inl rfl) (pe_op op_add_str (pv 5) (pe_ix ix_str (pv 2) (pe_call (ok_law_take T) (hr.mono (by decide)) rfl T.g__law_take T.F__law_take.kp T.b__law_take .nil pass0 (pa_cons (pv 0) (pa_cons (pe_int) pa_nil))) (fun _ _ => rfl))))))
  (pss_cons (ps_for PassesOwn.never rfl (pi_range1 (by rfl) T.n_range (pa_cons (pe_int) pa_nil)) (pg_name (i := 6) sc_law_names.nd rfl (Or.inl rfl))
  (pss_one (ps_if (PW.pt (pw_or (pt_cmpR op_in_seq (pv 5) (pv 3) (by rfl)) (pw_or1 (pt_cmpR op_in_seq (pv 5) (pe_call0 (ok_law_keys T) (hr.mono (by decide)) rfl T.g__law_keys T.F__law_keys.kp T.b__law_keys .nil pass0) (by rfl)))))
  (pss_one (ps_set (i := 5) sc_law_names.nd rfl (Or.inl rfl) (pe_op op_add_str (pv 5) (pe_ix ix_str (pv 2) (pv 4) (fun _ _ => rfl)))))
  (pss_nil))))
  (pss_one (ps_expr (pe_bm PySem.F.plainAttrs_list PySem.F.slot_list_append PySem.F.type_list_append mt_append (pv 3) (pa_cons (pv 5) pa_nil))))))))
  (pss_one (ps_ret (pv 3))))), ?_⟩
  refine ⟨Nat.zero_le _, fun p hp => ?_⟩
  obtain ⟨ns, hd⟩ := j d (List.mem_singleton.mpr rfl)
  have npd : p ≠ d := fun e => by rw [e, hd] at hp; cases hp
  have j0 : Ints [d] (upd H p (.lst [])) := fun q m => by
    rw [List.mem_singleton.mp m]
    exact ⟨ns, by rw [upd_ne npd.symm]; exact hd⟩
  have n0 : NamesAt B H (upd H p (.lst [])) d p [] := ⟨Grow.new0 sBH hp, j0, hp, upd_same⟩
  have i0 : NmI [] := ⟨List.nodup_nil, fun j z e => by cases e⟩
  refine ⟨_, rfl, n, rfl, by omega, by omega, for_range (n := n) (fun i σ H' => ∃ (v4 v5 v6 : Option V) (zs : List Str), σ = [some (.ref d), some (.int n), some (.str abc), some (.ref p), v4, v5, v6] ∧ NamesAt B H H' d p zs ∧ NmI zs ∧ zs.length = i) ⟨_, _, _, [], rfl, n0, i0, rfl⟩ ?_ ?_⟩
  · rintro i σ H1 hi ⟨v4, v5, v6, zs, rfl, R, I, rfl⟩
    refine ⟨_, rfl, ?_⟩
    refine take_call (b := 26) rfl (fun _ h => h) R.1.nh o R.2.1 (by decide) fun z H2 z0 z1 g2 j2 same2 => ?_
    obtain ⟨hc, hl⟩ := abc_in z0 z1
    refine ⟨abc, z, _, rfl, rfl, by decide +kernel, hc, ?_⟩
    have R2 : NamesAt B H H2 d p zs := ⟨R.1.trans g2, j2, R.2.2.1, by rw [same2 p npd]; exact R.2.2.2⟩
    -- for j in range(take 4)
    refine take_call (b := 4) rfl (fun _ h => h) R2.1.nh o R2.2.1 (by decide) fun m H3 m0 m1 g3 j3 same3 => ?_
    have R3 : NamesAt B H H3 d p zs := ⟨R2.1.trans g3, j3, R2.2.2.1, by rw [same3 p npd]; exact R2.2.2.2⟩
    refine ⟨m, rfl, by omega, by omega, for_range (n := m.toNat) (fun u σ H' => ∃ (nm : Str) (v6 : Option V), σ = [some (.ref d), some (.int n), some (.str abc), some (.ref p), some (.int (0 + (zs.length : Int))), some (.str nm), v6] ∧ nm.length = 1 + u ∧ (∀ x ∈ cs nm, inS lets x = true) ∧ NamesAt B H H' d p zs) ⟨_, _, rfl, rfl, fun x hx => by rw [List.mem_singleton.mp hx]; exact hl, R3⟩ ?_ ?_⟩
    · rintro u σ H4 hu ⟨nm, v6, rfl, hl, al, R4⟩
      refine ⟨_, rfl, _, rfl, ?_⟩
      refine take_call (b := 26) rfl (fun _ h => h) R4.1.nh o R4.2.1 (by decide) fun z H5 z0 z1 g5 j5 same5 => ?_
      obtain ⟨hc, hcl⟩ := abc_in z0 z1
      refine ⟨abc, z, _, rfl, rfl, by decide +kernel, hc, _, _, rfl, rfl, ?_, ?_⟩
      · rw [hl, sizeLine_eq]
        show 1 + u + 1 ≤ _
        omega
      · refine ⟨_, _, rfl, ?_, fun x hx => ?_, R4.1.trans g5, j5, R4.2.2.1, by rw [same5 p npd]; exact R4.2.2.2⟩
        · rw [len_app, hl]
          rfl
        · rw [cs_app] at hx
          rcases List.mem_append.mp hx with hx | hx
          · exact al x hx
          · rw [List.mem_singleton.mp hx]; exact hcl
    · rintro σ H4 ⟨nm, v6, rfl, hl, al, R4⟩
      have U0 : NmU zs 0 nm := ⟨cs nm, 0, by omega, by rw [List.replicate_zero, List.append_nil], by rw [← len_cs]; omega, by rw [← len_cs]; omega, al, .inl rfl⟩
      refine ⟨_, rfl, by decide, by decide, for_range (n := 8) (fun u σ H' => ∃ (nm : Str) (v6 : Option V), σ = [some (.ref d), some (.int n), some (.str abc), some (.ref p), some (.int (0 + (zs.length : Int))), some (.str nm), v6] ∧ NmU zs u nm ∧ NamesAt B H H' d p zs) ⟨_, _, rfl, U0, R4⟩ ?_ ?_⟩
      · rintro u σ H5 hu ⟨nm, v6, rfl, U, R5⟩
        have nl : nm.length ≤ 8 := by
          obtain ⟨b, t, t4, e, b1, b4, _⟩ := U
          rw [len_cs, e, List.length_append, List.length_replicate]
          omega
        have add : (nm ∈ zs ∨ nm ∈ keysL) → ∀ H6, NamesAt B H H6 d p zs → tAsg (tOp (fun x y H Q => ∃ i j, x = .str i ∧ y = .str j ∧ i.length + j.length ≤ sizeLine ∧ Q (.str (i ++ j)) H) (tVar 5) (tOp rIxS (tVar 2) (tVar 4))) (gName 5)
            { nx := fun σ H' => ∃ (nm : Str) (v6 : Option V), σ = [some (.ref d), some (.int n), some (.str abc), some (.ref p), some (.int (0 + (zs.length : Int))), some (.str nm), v6] ∧ NmU zs (u + 1) nm ∧ NamesAt B H H' d p zs, rt := fun _ _ => False }
            [some (.ref d), some (.int n), some (.str abc), some (.ref p), some (.int (0 + (zs.length : Int))), some (.str nm), some (.int (0 + (u : Int)))] H6 := fun hf H6 R6 => by
          obtain ⟨hc, _⟩ := abc_in (i := 0 + (zs.length : Int)) (by omega) (by omega)
          refine ⟨_, rfl, _, rfl, _, rfl, abc, _, _, rfl, rfl, by decide +kernel, hc, _, _, rfl, rfl, ?_, ?_⟩
          · rw [sizeLine_eq]
            show nm.length + 1 ≤ _
            omega
          · refine ⟨_, _, rfl, U.step I hf ?_, R6⟩
            rw [cs_app]
            have e : (0 + (zs.length : Int)).toNat = zs.length := by omega
            rw [e]
            rfl
        obtain ⟨g5, j5, h5, e1⟩ := id R5
        refine ⟨_, rfl, _, rfl, p, _, rfl, .inl (SqL.of e1), rfl, flat_strs zs, _, rfl, ite2 (fun h1 => ?_) fun h1 => ?_⟩
        · have h1 : inV (.str nm) (zs.map V.str) = true := h1
          rw [inV_str] at h1
          exact add (.inl (of_decide_eq_true h1)) H5 R5
        · refine ⟨_, rfl, rfl, fun q hq => ⟨q, _, rfl, .inl (SqL.of upd_same), rfl, flat_strs keysL, _, rfl, ite2 (fun h2 => ?_) fun h2 => ?_⟩⟩
          · have h2 : inV (.str nm) (keysL.map V.str) = true := h2
            rw [inV_str] at h2
            exact add (.inr (of_decide_eq_true h2)) _ (R5.new hq)
          · have h1 : ¬ inV (.str nm) (zs.map V.str) = true := h1
            have h2 : ¬ inV (.str nm) (keysL.map V.str) = true := h2
            rw [inV_str] at h1 h2
            exact ⟨nm, _, rfl, U.stay (fun z => h1 (decide_eq_true z)) (fun z => h2 (decide_eq_true z)), R5.new hq⟩
      · rintro σ H5 ⟨nm, v6, rfl, U, R5⟩
        obtain ⟨g5, j5, h5, e1⟩ := id R5
        refine ⟨_, rfl, .inl ⟨rfl, _, SqL.of e1⟩, _, rfl, p, _, _, rfl, rfl, e1, ?_, ?_⟩
        · rw [List.length_map, sizeLine_eq]
          omega
        · have hB : B p = none := sBH.free h5
          refine ⟨_, _, _, zs ++ [nm], rfl, ⟨g5.wrNew h5 hB, fun a m => ?_, h5, by rw [upd_same, List.map_append]; rfl⟩, U.fin I (by omega), by rw [List.length_append]; rfl⟩
          · rw [List.mem_singleton.mp m, upd_ne npd.symm]
            exact j5 d (List.mem_singleton.mpr rfl)
  · rintro σ H1 ⟨v4, v5, v6, zs, rfl, R, I, hl⟩
    obtain ⟨g, j1, h1, h2⟩ := R
    exact ⟨_, rfl, k p zs H1 g j1 h1 h2 hl I⟩
end
end K01

namespace K01
open PySem L2 YF
local macro_rules | `(tactic| walk_at "rd1") => `(tactic| first
  | refine ⟨_, _, rfl, rfl, ?_⟩
  | refine ⟨_, rfl, ?_⟩
  | refine ⟨(show CPow _ _ from ⟨by decide, by decide, by decide⟩), ?_⟩
  | refine ⟨(show CMul _ _ from Or.inr ⟨by decide, by decide⟩), ?_⟩
  | refine ⟨(show CDiv _ _ from ⟨by decide, by decide⟩), ?_⟩
  | refine ⟨(by show (0 : Int) < _; decide), ?_⟩
  | refine Or.inl ⟨_, rfl, ?_⟩)
local macro_rules | `(tactic| walk_at "rd") => `(tactic| repeat (walk_at "rd1"))
local macro_rules | `(tactic| walk_at "ed1") => `(tactic| first
  | exact ev_int | exact ev_str | exact ev_non | exact ev_bl | exact ev_nil
  | (apply ev_at 0
     · assumption
     · rfl
     · rfl)
  | (apply ev_at 1
     · assumption
     · rfl
     · rfl)
  | (apply ev_at 2
     · assumption
     · rfl
     · rfl)
  | (apply ev_at 3
     · assumption
     · rfl
     · rfl)
  | (apply ev_at 4
     · assumption
     · rfl
     · rfl)
  | (apply ev_at 5
     · assumption
     · rfl
     · rfl)
  | (apply ev_at 6
     · assumption
     · rfl
     · rfl)
  | (apply ev_at 7
     · assumption
     · rfl
     · rfl)
  | (apply ev_at 8
     · assumption
     · rfl
     · rfl)
  | (apply ev_at 9
     · assumption
     · rfl
     · rfl)
  | (apply ev_at 10
     · assumption
     · rfl
     · rfl)
  | (apply ev_at 11
     · assumption
     · rfl
     · rfl)
  | (apply ev_val (zero_rp (mg := mg) _ _); assumption)
  | (apply ev_val (one_rp (mg := mg) _ _); assumption)
  | (apply ev_val (two_rp (mg := mg) _ _); assumption)
  | (apply ev_callX
     · walk_at "ed"
     · first | exact trivial | exact ⟨_, rfl⟩ | exact ⟨_, _, rfl⟩ | exact ⟨_, _, _, rfl⟩
     · rfl
     · rfl
     · rfl)
  | (apply ev_cons
     · walk_at "ed"
     · walk_at "ed")
  | (apply ev_tupX
     · walk_at "ed"
     · rfl
     · first | decide | simp [D.len])
  | (apply ev_lstX
     · walk_at "ed"
     · rfl
     · first | decide | simp [D.len])
  | (apply ev_add
     · walk_at "ed"
     · walk_at "ed")
  | (apply ev_sub
     · walk_at "ed"
     · walk_at "ed"))
local macro_rules | `(tactic| walk_at "ed") => `(tactic| walk_at "ed1")
abbrev t2 (a b : D) : D := .tup (.cons a (.cons b .nil))
section
variable {P : Program} {w : World} {K : PySem.W.Frag} {mg : Str → Option Value} {base : Heap} {A : Adr}
def spNumber (K : PySem.W.Frag) : Sp := fun vs H Q _ => ∃ (B : Hp) (d : Addr), vs = [.ref d] ∧ Same B H ∧ Off [d] B ∧ Ints [d] H ∧
  ∀ (z : Int) (H' : Hp), Grow [d] B H B H' → Ints [d] H' → -1000000000 ≤ z → z ≤ 1000000000 → Q (.int z) H'
theorem ok_law_number (T : Txt K mg A) : FnOk P w K mg base CX0 2 A.a__law_number A.d__law_number ["draws"] (spNumber K) := by
  refine T.F__law_number.ok sc_law_number (fun vs H Q E ⟨_, _, e, _⟩ => by rw [e]; rfl) (fun cdv A' outer s H vs Q E hr h => ?_)
  obtain ⟨B, d, rfl, sBH, o, j, k⟩ := h
  refine ⟨_, pss_cons (ps_if (pt_cmpR op_gt (pe_call (ok_law_take T) (hr.mono (by decide)) rfl T.g__law_take T.F__law_take.kp T.b__law_take .nil pass0 (pa_cons (pv 0) (pa_cons (pe_int) pa_nil))) (pe_int) (nomark _))
  (pss_one (ps_ret (pe_op op_sub (pe_call (ok_law_take T) (hr.mono (by decide)) rfl T.g__law_take T.F__law_take.kp T.b__law_take .nil pass0 (pa_cons (pv 0) (pa_cons (pe_int) pa_nil))) (pe_int))))
  (pss_nil))
  (pss_one (ps_ret (pe_ix ix_list (pe_lst (pa_cons (pe_op op_pow (pe_int) (pe_int)) (pa_cons (pe_un un_neg (pe_op op_pow (pe_int) (pe_int))) (pa_cons (pe_op op_sub (pe_int) (pe_call (ok_law_take T) (hr.mono (by decide)) rfl T.g__law_take T.F__law_take.kp T.b__law_take .nil pass0 (pa_cons (pv 0) (pa_cons (pe_int) pa_nil)))) (pa_cons (pe_op op_mul (pe_int) (pe_call (ok_law_take T) (hr.mono (by decide)) rfl T.g__law_take T.F__law_take.kp T.b__law_take .nil pass0 (pa_cons (pv 0) (pa_cons (pe_int) pa_nil)))) pa_nil))))) (pe_call (ok_law_take T) (hr.mono (by decide)) rfl T.g__law_take T.F__law_take.kp T.b__law_take .nil pass0 (pa_cons (pv 0) (pa_cons (pe_int) pa_nil))) (fun _ _ => rfl)))), ?_⟩
  refine take_call (b := 6) rfl (fun _ h => h) sBH o j (by decide) fun z1 H1 l1 u1 g1 j1 s1 => ?_
  refine ⟨_, _, rfl, rfl, _, rfl, ite2 (fun _ => ?_) fun _ => ?_⟩
  · refine take_call (b := 12) rfl (fun _ h => h) g1.nh o j1 (by decide) fun z2 H2 l2 u2 g2 j2 s2 => ?_
    refine ⟨_, _, rfl, rfl, ?_⟩
    exact k _ _ (g1.trans g2) j2 (by omega) (by omega)
  · refine ⟨_, _, rfl, rfl, (show CPow _ _ from ⟨by decide, by decide, by decide⟩), ?_⟩
    refine ⟨_, _, rfl, rfl, (show CPow _ _ from ⟨by decide, by decide, by decide⟩), _, rfl, ?_⟩
    refine take_call (b := 99) rfl (fun _ h => h) g1.nh o j1 (by decide) fun z2 H2 l2 u2 g2 j2 s2 => ?_
    refine ⟨_, _, rfl, rfl, ?_⟩
    refine take_call (b := 1000) rfl (fun _ h => h) g2.nh o j2 (by decide) fun z3 H3 l3 u3 g3 j3 s3 => ?_
    refine ⟨_, _, rfl, rfl, (show CMul _ _ from Or.inl ⟨by decide, by decide⟩), (by show 4 ≤ sizeLine; decide), fun p hp => ?_⟩
    have g4 := (g1.trans g2).trans (g3.trans (Grow.new0 (o := .lst [V.int (10 ^ (9 : Int).toNat), V.int (-10 ^ (9 : Int).toNat), V.int (999999999 - z2), V.int (1000 * z3)]) g3.nh hp))
    have j4 : Ints [d] (upd H3 p (.lst [V.int (10 ^ (9 : Int).toNat), V.int (-10 ^ (9 : Int).toNat), V.int (999999999 - z2), V.int (1000 * z3)])) := fun a m => by
      obtain ⟨ns, e⟩ := j3 a m
      exact ⟨ns, Same.upd hp a _ e⟩
    refine take_call (b := 4) rfl (fun _ h => h) g4.nh o j4 (by decide) fun z5 H5 l5 u5 g5 j5 s5 => ?_
    obtain ⟨ns, e3⟩ := j3 d (List.mem_singleton.mpr rfl)
    have npd : p ≠ d := fun e => by rw [e, e3] at hp; cases hp
    have h5 : H5 p = some (.lst [V.int (10 ^ (9 : Int).toNat), V.int (-10 ^ (9 : Int).toNat), V.int (999999999 - z2), V.int (1000 * z3)]) := by rw [s5 p npd, upd_same]
    have fin : ∀ z : Int, -1000000000 ≤ z → z ≤ 1000000000 → Q (.int z) H5 := fun z a b => k z H5 (g4.trans g5) j5 a b
    have e9 : (10 : Int) ^ (9 : Int).toNat = 1000000000 := by decide
    have c4 : z5 = 0 ∨ z5 = 1 ∨ z5 = 2 ∨ z5 = 3 := by omega
    rcases c4 with rfl | rfl | rfl | rfl
    · exact ⟨p, _, _, _, rfl, rfl, SqL.of h5, rfl, fin _ (by rw [e9]; decide) (by rw [e9]; decide)⟩
    · exact ⟨p, _, _, _, rfl, rfl, SqL.of h5, rfl, fin _ (by rw [e9]; decide) (by rw [e9]; decide)⟩
    · exact ⟨p, _, _, _, rfl, rfl, SqL.of h5, rfl, fin _ (by omega) (by omega)⟩
    · exact ⟨p, _, _, _, rfl, rfl, SqL.of h5, rfl, fin _ (by omega) (by omega)⟩
theorem number_call {B H : Hp} {d : Addr} {i : Nat} {σ : L2.St} {Q : VK} {E : XK} (hi : σ[i]? = some (some (.ref d))) (s : Same B H) (o : Off [d] B) (j : Ints [d] H)
    (k : ∀ (z : Int) (H2 : Hp), Grow [d] B H B H2 → Ints [d] H2 → -1000000000 ≤ z → z ≤ 1000000000 → Q (.int z) H2) : tCall (spNumber K) [] E (tCons (tVar i) tNil) σ H Q :=
  ⟨_, hi, B, d, rfl, s, o, j, k⟩
/-- drawn expressions: what the draws can make of names of locals and of cells, so deep at most -/
inductive IsExp (vars cells : List Str) : Nat → D → Prop where
  | num {m : Nat} (z : Int) (h1 : -1000000000 ≤ z) (h2 : z ≤ 1000000000) : IsExp vars cells m (t2 (.str "number") (.int z))
  | loc {m : Nat} (x : Str) (h : x ∈ vars) : IsExp vars cells m (t2 (.str "local") (.str x))
  | cell {m : Nat} (x : Str) (h : x ∈ cells) (i : D) (hi : IsExp vars cells m i) : IsExp vars cells (m + 1) (.tup (.cons (.str "cell") (.cons (.str x) (.cons i .nil))))
  | one {m : Nat} (w : Str) (h : w = "negative" ∨ w = "not") (a : D) (ha : IsExp vars cells m a) : IsExp vars cells (m + 1) (t2 (.str w) a)
  | two {m : Nat} (w : Str) (h : w ∈ (["plus", "minus", "times", "over", "rest", "less", "atmost", "same", "and", "or"] : List Str)) (a b : D) (ha : IsExp vars cells m a) (hb : IsExp vars cells m b) :
      IsExp vars cells (m + 1) (.tup (.cons (.str w) (.cons a (.cons b .nil))))
theorem IsExp.good {vars cells : List Str} {m : Nat} {e : D} (h : IsExp vars cells m e) : e.isRow = false ∧ e.ok = true ∧ e.dep ≤ m + 1 := by
  induction h with
  | num z _ _ => exact ⟨rfl, rfl, by simp [t2, D.dep]⟩
  | loc x _ => exact ⟨rfl, rfl, by simp [t2, D.dep]⟩
  | cell x _ i _ ih =>
    obtain ⟨h1, h2, h3⟩ := ih
    refine ⟨rfl, by simp [D.ok, D.isRow, h1, h2], ?_⟩
    simp only [D.dep]
    omega
  | one w _ a _ ih =>
    obtain ⟨h1, h2, h3⟩ := ih
    refine ⟨rfl, by simp [t2, D.ok, D.isRow, h1, h2], ?_⟩
    simp only [t2, D.dep]
    omega
  | two w _ a b _ _ iha ihb =>
    obtain ⟨h1, h2, h3⟩ := iha
    obtain ⟨k1, k2, k3⟩ := ihb
    refine ⟨rfl, by simp [D.ok, D.isRow, h1, h2, k1, k2], ?_⟩
    simp only [D.dep]
    omega
theorem IsExp.more {vars cells : List Str} {m n : Nat} {e : D} (h : IsExp vars cells m e) : m ≤ n → IsExp vars cells n e := by
  induction h generalizing n with
  | num z h1 h2 => exact fun _ => .num z h1 h2
  | loc x h => exact fun _ => .loc x h
  | cell x h i _ ih =>
    intro l
    obtain ⟨n', rfl⟩ : ∃ n', n = n' + 1 := ⟨n - 1, by omega⟩
    exact .cell x h i (ih (by omega))
  | one w h a _ ih =>
    intro l
    obtain ⟨n', rfl⟩ : ∃ n', n = n' + 1 := ⟨n - 1, by omega⟩
    exact .one w h a (ih (by omega))
  | two w h a b _ _ iha ihb =>
    intro l
    obtain ⟨n', rfl⟩ : ∃ n', n = n' + 1 := ⟨n - 1, by omega⟩
    exact .two w h a b (iha (by omega)) (ihb (by omega))
theorem IsExp.one1 {vars cells : List Str} {n : Nat} (hn : 1 ≤ n) (w : Str) (h : w = "negative" ∨ w = "not") (a : D) (ha : IsExp vars cells (n - 1) a) : IsExp vars cells n (t2 (.str w) a) := by
  obtain ⟨m, rfl⟩ : ∃ m, n = m + 1 := ⟨n - 1, by omega⟩
  exact .one w h a ha
theorem IsExp.two1 {vars cells : List Str} {n : Nat} (hn : 1 ≤ n) (w : Str) (h : w ∈ (["plus", "minus", "times", "over", "rest", "less", "atmost", "same", "and", "or"] : List Str)) (a b : D) (ha : IsExp vars cells (n - 1) a) (hb : IsExp vars cells (n - 1) b) : IsExp vars cells n (.tup (.cons (.str w) (.cons a (.cons b .nil)))) := by
  obtain ⟨m, rfl⟩ : ∃ m, n = m + 1 := ⟨n - 1, by omega⟩
  exact .two w h a b ha hb
theorem IsExp.cell1 {vars cells : List Str} {n : Nat} (hn : 1 ≤ n) (x : Str) (h : x ∈ cells) (i : D) (hi : IsExp vars cells (n - 1) i) : IsExp vars cells n (.tup (.cons (.str "cell") (.cons (.str x) (.cons i .nil)))) := by
  obtain ⟨m, rfl⟩ : ∃ m, n = m + 1 := ⟨n - 1, by omega⟩
  exact .cell x h i hi
def spExp (K : PySem.W.Frag) (m : Nat) : Sp := fun vs H Q _ => ∃ (B : Hp) (d : Addr) (vv vc : V) (vars cells : List Str) (n : Nat), vs = [.ref d, vv, vc, .int n] ∧ Same B H ∧ Off [d] B ∧ Ints [d] H ∧
  Rp K B (.lst (strRow vars)) [vv] ∧ Rp K B (.lst (strRow cells)) [vc] ∧ n < m ∧
  ∀ (v : V) (e : D) (N H' : Hp), Grow [d] B H N H' → Ints [d] H' → IsExp vars cells n e → Rp K N e [v] → Q v H'
theorem exp_call {m : Nat} {B H : Hp} {d : Addr} {i1 i2 i3 : Nat} {te : TE} {vv vc : V} {vars cells : List Str} {n : Nat} {σ : L2.St} {Q : VK} {E : XK} (h0 : σ[i1]? = some (some (.ref d))) (h1 : σ[i2]? = some (some vv)) (h2 : σ[i3]? = some (some vc)) (h3 : Te te σ H (.int n))
    (s : Same B H) (o : Off [d] B) (j : Ints [d] H) (rv : Rp K B (.lst (strRow vars)) [vv]) (rc : Rp K B (.lst (strRow cells)) [vc]) (hm : n < m)
    (k : ∀ (v : V) (e : D) (N H' : Hp), Grow [d] B H N H' → Ints [d] H' → IsExp vars cells n e → Rp K N e [v] → Q v H') : tCall (spExp K m) [] E (tCons (tVar i1) (tCons (tVar i2) (tCons (tVar i3) (tCons te tNil)))) σ H Q :=
  ⟨_, h0, _, h1, _, h2, h3 _ ⟨B, d, vv, vc, vars, cells, n, rfl, s, o, j, rv, rc, hm, k⟩⟩
/-- a list of texts, read -/
theorem strRow_get {N : Hp} : ∀ {zs : List Str} {vs : List V}, Rp K N (strRow zs) vs → vs = zs.map V.str
  | [], vs, h => h
  | z :: r, vs, ⟨x, xs, e, h1, h2⟩ => by
    have e1 : x = .str z := (List.cons.inj h1).1
    rw [e, e1, strRow_get h2]
    rfl
theorem str_list {N : Hp} {zs : List Str} {v : V} (r : Rp K N (.lst (strRow zs)) [v]) : ∃ a, v = .ref a ∧ SqL K N a (zs.map V.str) := by
  obtain ⟨a, xs, e, h, _, h2⟩ := r
  rw [strRow_get h2] at h
  exact ⟨a, (List.cons.inj e).1, h⟩
theorem str_at {zs : List Str} {z : Int} (h0 : 0 ≤ z) (h1 : z < (zs.map V.str).length) : ∃ x, x ∈ zs ∧ atI (zs.map V.str) z = some (.str x) := by
  obtain ⟨n, rfl⟩ := Int.eq_ofNat_of_zero_le h0
  rw [List.length_map] at h1
  have hn : n < zs.length := by omega
  refine ⟨zs[n], List.getElem_mem hn, atI_nat ?_⟩
  rw [List.getElem?_map, List.getElem?_eq_getElem hn]
  rfl
theorem ret_p {X : List Addr} {B H : Hp} {te : TE} {σ : L2.St} {φ : D → Prop} {E : Ends} (h : EvP K X B te σ φ) (s : Same B H) (o : Off X B) (j : Ints X H)
    (k : ∀ v e N H2, Grow X B H N H2 → Ints X H2 → φ e → Rp K N e [v] → E.rt v H2) : tRet te E σ H := h H s o j _ k
theorem asg_p {X : List Addr} {B H : Hp} {te : TE} {σ : L2.St} {φ : D → Prop} {E : Ends} {rest : TS} {i : Nat} (h : EvP K X B te σ φ) (s : Same B H) (o : Off X B) (j : Ints X H)
    (k : ∀ v e N H2, Grow X B H N H2 → Ints X H2 → φ e → Rp K N e [v] → rest E (σ.set i (some v)) H2) : tSeq (tAsg te (gName i)) rest E σ H := h H s o j _ k
theorem ep_number {d : Addr} {B : Hp} {i : Nat} {σ : L2.St} {E : XK} (hi : σ[i]? = some (some (.ref d))) : EvP K [d] B (tCall (spNumber K) [] E (tCons (tVar i) tNil)) σ (fun e => ∃ z : Int, e = .int z ∧ -1000000000 ≤ z ∧ z ≤ 1000000000) := fun H s o j Q q =>
  number_call hi s o j fun z H2 g j2 a b => q _ _ B H2 g j2 ⟨z, rfl, a, b⟩ rfl
theorem ep_pick {d : Addr} {B : Hp} {i i2 : Nat} {σ : L2.St} {E : XK} {v : V} {zs : List Str} {te : TE} (hv : Rp K B (.lst (strRow zs)) [v]) (hi : σ[i]? = some (some (.ref d))) (h2 : σ[i2]? = some (some v)) (hte : ∀ H, Same B H → Te te σ H (.int ((zs.map V.str).length : Int))) (hz : 0 < (zs.map V.str).length) :
    EvP K [d] B (tOp (rIxL K) (tVar i2) (tCall (spTake K) [] E (tCons (tVar i) (tCons te tNil)))) σ (fun e => ∃ x, e = .str x ∧ x ∈ zs) := fun H s o j Q q => by
  obtain ⟨a, rfl, ha⟩ := str_list hv
  refine ⟨_, h2, take_call (K := K) hi (hte H s) s o j (by omega) fun z H2 z0 z1 g j2 _ => ?_⟩
  obtain ⟨x, hx, e⟩ := str_at z0 z1
  exact ⟨a, _, z, _, rfl, rfl, Same.sqL g.nh ha, e, q _ _ B H2 g j2 ⟨x, rfl, hx⟩ rfl⟩
theorem ep_exp {m : Nat} {d : Addr} {B : Hp} {i1 i2 i3 : Nat} {te : TE} {vv vc : V} {vars cells : List Str} {n : Nat} {σ : L2.St} {E : XK} (h0 : σ[i1]? = some (some (.ref d))) (h1 : σ[i2]? = some (some vv)) (h2 : σ[i3]? = some (some vc)) (h3 : ∀ H, Te te σ H (.int n))
    (rv : Rp K B (.lst (strRow vars)) [vv]) (rc : Rp K B (.lst (strRow cells)) [vc]) (hm : n < m) : EvP K [d] B (tCall (spExp K m) [] E (tCons (tVar i1) (tCons (tVar i2) (tCons (tVar i3) (tCons te tNil))))) σ (fun e => IsExp vars cells n e) := fun H s o j Q q =>
  exp_call h0 h1 h2 (h3 H) s o j rv rc hm fun v e N H' g j2 h r => q v e N H' g j2 h r
theorem ep_menu {d : Addr} {B : Hp} {i : Nat} {σ : L2.St} {E : XK} {zs : List Str} {b : Int} {ta : TA} (h : EvPs K [d] B ta σ (· = strRow zs)) (hi : σ[i]? = some (some (.ref d))) (hb : b = ((zs.map V.str).length : Int)) (hz : 0 < (zs.map V.str).length) (hl : (zs.map V.str).length ≤ 1000) (h1 : (strRow zs).isRow = true) (h2 : (strRow zs).len ≤ 100000) :
    EvP K [d] B (tOp (rIxL K) (tLst ta) (tCall (spTake K) [] E (tCons (tVar i) (tCons (tC (.int b)) tNil)))) σ (fun e => ∃ x, e = .str x ∧ x ∈ zs) := fun H s o j Q q =>
  ed_lst h h1 h2 H s o j _ fun v e N H1 g j1 p r => by
    subst p
    obtain ⟨a, rfl, ha⟩ := str_list r
    refine take_call (K := K) hi (te_c (H := H1)) g.nh (g.offI o j) j1 (by omega) fun z H2 z0 z1 g2 j2 _ => ?_
    obtain ⟨x, hx, e⟩ := str_at (zs := zs) z0 (by omega)
    exact ⟨a, _, z, _, rfl, rfl, Same.sqL (g2.nh) ha, e, q _ _ N H2 (g.trans g2) j2 ⟨x, rfl, hx⟩ rfl⟩
theorem row_two {a b : D} : (D.cons a (D.cons b .nil)).isRow = true ∧ (D.cons a (D.cons b .nil)).len ≤ 100000 := ⟨rfl, by simp [D.len]⟩
theorem row_three {a b c : D} : (D.cons a (D.cons b (D.cons c .nil))).isRow = true ∧ (D.cons a (D.cons b (D.cons c .nil))).len ≤ 100000 := ⟨rfl, by simp [D.len]⟩
def twoWords : List Str := ["negative", "not"]
/-- a pair, a triple: told by what their parts are -/
theorem ep_two {X : List Addr} {B : Hp} {ta tb : TE} {σ : L2.St} {φ ψ : D → Prop} (h : EvP K X B ta σ φ) (k : ∀ N, Same B N → EvP K X N tb σ ψ) : EvP K X B (tTup (tCons ta (tCons tb tNil))) σ (fun e => ∃ a b, e = t2 a b ∧ φ a ∧ ψ b) := by
  refine (EvP.tup (EvPs.cons h fun N s => EvPs.cons (k N s) fun N' s' => EvPs.nil) ?_).imp ?_
  · rintro d ⟨a, r, rfl, _, b, r', rfl, _, rfl⟩
    exact row_two
  · rintro e ⟨ds, rfl, a, r, rfl, ha, b, r', rfl, hb, rfl⟩
    exact ⟨a, b, rfl, ha, hb⟩
theorem ep_three {X : List Addr} {B : Hp} {ta tb tc : TE} {σ : L2.St} {φ ψ χ : D → Prop} (h : EvP K X B ta σ φ) (k : ∀ N, Same B N → EvP K X N tb σ ψ) (l : ∀ N, Same B N → EvP K X N tc σ χ) :
    EvP K X B (tTup (tCons ta (tCons tb (tCons tc tNil)))) σ (fun e => ∃ a b c, e = .tup (.cons a (.cons b (.cons c .nil))) ∧ φ a ∧ ψ b ∧ χ c) := by
  refine (EvP.tup (EvPs.cons h fun N s => EvPs.cons (k N s) fun N' s' => EvPs.cons (l N' (s.trans s')) fun N2 s2 => EvPs.nil) ?_).imp ?_
  · rintro d ⟨a, r, rfl, _, b, r', rfl, _, c, r2, rfl, _, rfl⟩
    exact row_three
  · rintro e ⟨ds, rfl, a, r, rfl, ha, b, r', rfl, hb, c, r2, rfl, hc, rfl⟩
    exact ⟨a, b, c, rfl, ha, hb, hc⟩
theorem ok_law_exp (T : Txt K mg A) : ∀ m, FnOk P w K mg base CX0 (m + 3) A.a__law_exp A.d__law_exp ["draws", "variables", "cells", "depth"] (spExp K m) := by
  intro m
  induction m with
  | zero => exact ⟨fun vs H Q E ⟨_, _, _, _, _, _, _, _, _, _, _, _, _, h, _⟩ => absurd h (Nat.not_lt_zero _), fun _ _ _ _ _ _ _ _ _ _ _ _ _ ⟨_, _, _, _, _, _, _, _, _, _, _, _, _, h, _⟩ => absurd h (Nat.not_lt_zero _)⟩
  | succ m ih =>
    refine T.F__law_exp.ok sc_law_exp (fun vs H Q E ⟨_, _, _, _, _, _, _, e, _⟩ => by rw [e]; rfl) (fun cdv A' outer s H vs Q E hr h => ?_)
    obtain ⟨B, d, vv, vc, vars, cells, n, rfl, sBH, o, j, rv, rc, hm, k⟩ := h
    refine ⟨_, pss_cons (ps_set (i := 4) sc_law_exp.nd rfl (Or.inl rfl) (pe_call (ok_law_take T) (hr.mono (by omega)) rfl T.g__law_take T.F__law_take.kp T.b__law_take .nil pass0 (pa_cons (pv 0) (pa_cons (pe_int) pa_nil))))
  (pss_cons (ps_if (PW.pt (pw_or (pt_cmpR op_lt (pv 3) (pe_int) (nomark _)) (pw_or1 (pt_cmpR op_eq (pv 4) (pe_int) (nomark _)))))
  (pss_one (ps_ret (pe_tup (pa_cons (pe_str) (pa_cons (pe_call (ok_law_number T) (hr.mono (by omega)) rfl T.g__law_number T.F__law_number.kp T.b__law_number .nil pass0 (pa_cons (pv 0) pa_nil)) pa_nil)))))
  (pss_nil))
  (pss_cons (ps_if (PW.pt (pw_and (pt_cmpR op_eq (pv 4) (pe_int) (nomark _)) (pw_and1 (pt_cmpR op_gt (pe_callB call_len_seq (by rfl) T.n_len (by decide +kernel) (pa_cons (pv 1) pa_nil)) (pe_int) (nomark _)))))
  (pss_one (ps_ret (pe_tup (pa_cons (pe_str) (pa_cons (pe_ix ix_list (pv 1) (pe_call (ok_law_take T) (hr.mono (by omega)) rfl T.g__law_take T.F__law_take.kp T.b__law_take .nil pass0 (pa_cons (pv 0) (pa_cons (pe_callB call_len_seq (by rfl) T.n_len (by decide +kernel) (pa_cons (pv 1) pa_nil)) pa_nil))) (fun _ _ => rfl)) pa_nil)))))
  (pss_nil))
  (pss_cons (ps_if (PW.pt (pw_and (pt_cmpR op_lt (pv 4) (pe_int) (nomark _)) (pw_and1 (pt_cmpR op_gt (pe_callB call_len_seq (by rfl) T.n_len (by decide +kernel) (pa_cons (pv 2) pa_nil)) (pe_int) (nomark _)))))
  (pss_cons (ps_set (i := 5) sc_law_exp.nd rfl (Or.inl rfl) (pe_ix ix_list (pv 2) (pe_call (ok_law_take T) (hr.mono (by omega)) rfl T.g__law_take T.F__law_take.kp T.b__law_take .nil pass0 (pa_cons (pv 0) (pa_cons (pe_callB call_len_seq (by rfl) T.n_len (by decide +kernel) (pa_cons (pv 2) pa_nil)) pa_nil))) (fun _ _ => rfl)))
  (pss_cons (ps_if (pt_cmpR op_eq (pe_call (ok_law_take T) (hr.mono (by omega)) rfl T.g__law_take T.F__law_take.kp T.b__law_take .nil pass0 (pa_cons (pv 0) (pa_cons (pe_int) pa_nil))) (pe_int) (nomark _))
  (pss_one (ps_ret (pe_tup (pa_cons (pe_str) (pa_cons (pv 5) (pa_cons (pe_tup (pa_cons (pe_str) (pa_cons (pe_int) pa_nil))) pa_nil))))))
  (pss_nil))
  (pss_one (ps_ret (pe_tup (pa_cons (pe_str) (pa_cons (pv 5) (pa_cons (pe_call ih (hr.mono (by omega)) rfl T.g__law_exp T.F__law_exp.kp T.b__law_exp .nil pass0 (pa_cons (pv 0) (pa_cons (pv 1) (pa_cons (pv 2) (pa_cons (pe_op op_sub (pv 3) (pe_int)) pa_nil))))) pa_nil))))))))
  (pss_nil))
  (pss_cons (ps_if (pt_cmpR op_eq (pv 4) (pe_int) (nomark _))
  (pss_one (ps_ret (pe_tup (pa_cons (pe_ix ix_list (pe_lst (pa_cons (pe_str) (pa_cons (pe_str) pa_nil))) (pe_call (ok_law_take T) (hr.mono (by omega)) rfl T.g__law_take T.F__law_take.kp T.b__law_take .nil pass0 (pa_cons (pv 0) (pa_cons (pe_int) pa_nil))) (fun _ _ => rfl)) (pa_cons (pe_call ih (hr.mono (by omega)) rfl T.g__law_exp T.F__law_exp.kp T.b__law_exp .nil pass0 (pa_cons (pv 0) (pa_cons (pv 1) (pa_cons (pv 2) (pa_cons (pe_op op_sub (pv 3) (pe_int)) pa_nil))))) pa_nil)))))
  (pss_nil))
  (pss_cons (ps_set (i := 6) sc_law_exp.nd rfl (Or.inl rfl) (pe_lst (pa_cons (pe_str) (pa_cons (pe_str) (pa_cons (pe_str) (pa_cons (pe_str) (pa_cons (pe_str) (pa_cons (pe_str) (pa_cons (pe_str) (pa_cons (pe_str) (pa_cons (pe_str) (pa_cons (pe_str) pa_nil))))))))))))
  (pss_cons (ps_set (i := 7) sc_law_exp.nd rfl (Or.inl rfl) (pe_call ih (hr.mono (by omega)) rfl T.g__law_exp T.F__law_exp.kp T.b__law_exp .nil pass0 (pa_cons (pv 0) (pa_cons (pv 1) (pa_cons (pv 2) (pa_cons (pe_op op_sub (pv 3) (pe_int)) pa_nil))))))
  (pss_one (ps_ret (pe_tup (pa_cons (pe_ix ix_list (pv 6) (pe_call (ok_law_take T) (hr.mono (by omega)) rfl T.g__law_take T.F__law_take.kp T.b__law_take .nil pass0 (pa_cons (pv 0) (pa_cons (pe_int) pa_nil))) (fun _ _ => rfl)) (pa_cons (pv 7) (pa_cons (pe_call ih (hr.mono (by omega)) rfl T.g__law_exp T.F__law_exp.kp T.b__law_exp .nil pass0 (pa_cons (pv 0) (pa_cons (pv 1) (pa_cons (pv 2) (pa_cons (pe_op op_sub (pv 3) (pe_int)) pa_nil))))) pa_nil)))))))))))), ?_⟩
    refine take_call (b := 8) rfl (fun _ h => h) sBH o j (by decide) fun kd H1 l1 u1 g1 j1 s1 => ?_
    obtain ⟨av, rfl, hv⟩ := str_list rv
    obtain ⟨ac, rfl, hc⟩ := str_list rc
    dsimp only [gName]
    refine if_seq (b := decide ((n : Int) < 1) || decide (V.int kd = V.int 0)) ?_ (fun _ => ?_) (fun hb => ?_)
    · exact tt_or (tt_test (te_i0 (te_var rfl) te_c)) fun _ => tt_test (te_eq (te_var rfl) te_c rfl)
    · -- a number
      refine ret_p (φ := IsExp vars cells n) ?_ g1.nh o j1 fun v e N H2 g j2 h r => k v e N H2 (g1.trans g) j2 h r
      refine (ep_two ed_str fun N s => ep_number rfl).imp ?_
      rintro e ⟨a, b, rfl, rfl, z, rfl, h1, h2⟩
      exact .num z h1 h2
    have hn : 1 ≤ n := by
      simp only [Bool.or_eq_false_iff, decide_eq_false_iff_not] at hb
      omega
    have tlen : ∀ {H : Hp} {i : Nat} {σ : L2.St} {a : Addr} {zs : List Str}, σ[i]? = some (some (.ref a)) → SqL K B a (zs.map V.str) → Same B H → Te (tCB (fun vs H Q => ∃ p ys, vs = [.ref p] ∧ (SqL K H p ys ∨ SqT K H p ys) ∧ Q (.int ys.length) H) (tCons (tVar i) tNil)) σ H (.int ((zs.map V.str).length : Int)) :=
      fun h1 h2 s => te_len (te_var h1) (.inl (Same.sqL s h2))
    have tdep : ∀ {σ : L2.St} (H : Hp), σ[3]? = some (some (.int n)) → Te (tOp (rI0 fun i j => .int (i - j)) (tVar 3) (tC (.int 1))) σ H (.int ((n - 1 : Nat) : Int)) := fun H h => by
      have e : ((n - 1 : Nat) : Int) = (n : Int) - 1 := by omega
      rw [e]
      exact te_i0 (te_var h) te_c
    refine if_seq (b := decide (V.int kd = V.int 1) && decide ((0 : Int) < ((vars.map V.str).length : Int))) ?_ (fun hb2 => ?_) (fun _ => ?_)
    · exact tt_and (tt_test (te_eq (te_var rfl) te_c rfl)) fun _ => tt_test (te_i0 (tlen rfl hv g1.nh) te_c)
    · -- a local
      have hz : 0 < (vars.map V.str).length := by
        simp only [Bool.and_eq_true, decide_eq_true_eq] at hb2
        omega
      refine ret_p (φ := IsExp vars cells n) ?_ g1.nh o j1 fun v e N H2 g j2 h r => k v e N H2 (g1.trans g) j2 h r
      refine (ep_two ed_str fun N s => ep_pick (Rp.mono s rv) rfl rfl (fun H s' => tlen rfl hv (s.trans s')) hz).imp ?_
      rintro e ⟨a, b, rfl, rfl, x, rfl, h1⟩
      exact .loc x h1
    refine if_seq (b := decide (kd < 4) && decide ((0 : Int) < ((cells.map V.str).length : Int))) ?_ (fun hb2 => ?_) (fun _ => ?_)
    · exact tt_and (tt_test (te_i0 (te_var rfl) te_c)) fun _ => tt_test (te_i0 (tlen rfl hc g1.nh) te_c)
    · -- a cell
      have hz : 0 < (cells.map V.str).length := by
        simp only [Bool.and_eq_true, decide_eq_true_eq] at hb2
        omega
      refine asg_p (ep_pick rc rfl rfl (fun H s' => tlen rfl hc s') hz) g1.nh o j1 fun v e N H2 g j2 h r => ?_
      obtain ⟨x, rfl, hx⟩ := h
      have g1N := g1.trans g
      refine take_call (b := 2) rfl (fun _ h => h) g.nh (g.offI o j1) j2 (by decide) fun z H3 z0 z1 g3 j3 _ => ?_
      have gN := g1N.trans g3
      refine ⟨rfl, _, rfl, ite2 (fun _ => ?_) fun _ => ?_⟩
      · refine ret_p (φ := IsExp vars cells n) ?_ g3.nh (g.offI o j1) j3 fun v e N H g j2 h r => k v e N H (gN.trans g) j2 h r
        refine (ep_three ed_str (fun N s => EvP.var rfl (Rp.mono s r)) fun N s => ep_two ed_str fun N s => ed_int).imp ?_
        rintro e ⟨a, b, c, rfl, rfl, rfl, a', b', rfl, rfl, rfl⟩
        exact .cell1 hn x hx _ (.num 0 (by decide) (by decide))
      · refine go_next ?_
        dsimp only
        refine ret_p (φ := IsExp vars cells n) ?_ g3.nh (g.offI o j1) j3 fun v e N H g j2 h r => k v e N H (gN.trans g) j2 h r
        refine (ep_three ed_str (fun N s => EvP.var rfl (Rp.mono s r)) fun N s => ep_exp rfl rfl rfl (fun H => tdep H rfl) (Rp.mono (g.bn.trans s) rv) (Rp.mono (g.bn.trans s) rc) (by omega)).imp ?_
        rintro e ⟨a, b, c, rfl, rfl, rfl, hi⟩
        exact .cell1 hn x hx _ hi
    refine if_seq (b := decide (V.int kd = V.int 4)) (tt_test (te_eq (te_var rfl) te_c rfl)) (fun _ => ?_) (fun _ => ?_)
    · refine ret_p (φ := IsExp vars cells n) ?_ g1.nh o j1 fun v e N H2 g j2 h r => k v e N H2 (g1.trans g) j2 h r
      refine (ep_two (ep_menu (zs := ["negative", "not"]) (ed_cons ed_str fun _ _ => ed_cons ed_str fun _ _ => ed_nil) rfl rfl (by decide) (by decide) rfl (by decide)) fun N s => ep_exp rfl rfl rfl (fun H => tdep H rfl) (Rp.mono s rv) (Rp.mono s rc) (by omega)).imp ?_
      rintro e ⟨a, b, rfl, ⟨x, rfl, hx⟩, hi⟩
      exact .one1 hn x (by simpa using hx) _ hi
    refine asg_p (K := K) (φ := (· = .lst (strRow ["plus", "minus", "times", "over", "rest", "less", "atmost", "same", "and", "or"]))) ?_ g1.nh o j1 fun vw e N H2 g2 j2 h rw_ => ?_
    · exact ed_lst (ed_cons ed_str fun _ _ => ed_cons ed_str fun _ _ => ed_cons ed_str fun _ _ => ed_cons ed_str fun _ _ => ed_cons ed_str fun _ _ => ed_cons ed_str fun _ _ => ed_cons ed_str fun _ _ => ed_cons ed_str fun _ _ => ed_cons ed_str fun _ _ => ed_cons ed_str fun _ _ => ed_nil)
    subst h
    have o2 := g2.offI o j1
    refine asg_p (ep_exp rfl rfl rfl (fun H => tdep H rfl) (Rp.mono g2.bn rv) (Rp.mono g2.bn rc) (by omega)) g2.nh o2 j2 fun vf ef N3 H3 g3 j3 hf rf => ?_
    have o3 := g3.offI o2 j2
    have gN := (g1.trans g2).trans g3
    refine ret_p (φ := IsExp vars cells n) ?_ g3.nh o3 j3 fun v e N H g j2 h r => k v e N H (gN.trans g) j2 h r
    refine (ep_three (ep_pick (Rp.mono g3.bn rw_) rfl rfl (fun H _ => te_c) (by decide)) (fun N s => EvP.var rfl (Rp.mono s rf)) fun N s => ep_exp rfl rfl rfl (fun H => tdep H rfl) (Rp.mono ((g2.bn.trans g3.bn).trans s) rv) (Rp.mono ((g2.bn.trans g3.bn).trans s) rc) (by omega)).imp ?_
    rintro e ⟨a, b, c, rfl, ⟨x, rfl, hx⟩, rfl, hi⟩
    exact .two1 hn x hx _ _ hf hi
end
end K01

set_option linter.all false
set_option maxHeartbeats 2000000
/-! all(test for x in text) where the test reads a global of the module -/
namespace YF
open PySem PySem.Spec PyProof.Rows L2
/-- a test of one sign, in any frame of the generator whose globals are the module's -/
def EltGl (prog : Program) (w : World) (mg : Str → Option Value) (scope : Scope) (x : Str) (elt : Expr) (pb : Nat → Bool) : Prop :=
  ∀ (fr : PySem.Env) (B : Around) (F : Value → Shared → Prop) (c : Nat) (tk : Tok) (u : Shared) (m : Str → Option Value),
    fr.scope = scope → u.heap.Ns fr.globals mg → u.heap.Ns fr.locals m → m x = some (.str ⟨#[c]⟩ tk) →
    wpAny (model prog w) B (eval elt fr) (fun y v => y = .bool (pb c) ∧ Keeps u v) F u
section
variable {X : Cx} {pins : List (Addr × Obj)} {σ : L2.St} {H : Hp} {s : Shared}
theorem gen_gl {c P : Addr} {elt iter : Expr} {x : Str} {px gpos : Pos} {scope : Scope} {pb : Nat → Bool} {te : TE} {k : Nat} {W' : Value → Shared → Prop} {R : Str → Hp → Prop}
    (room : Room k X.A) (tab : GxR.TabB X.base X.mg c P) (cd0 : X.env.code = .ref c) (gs : GxR.GenS X.env scope x) (src : PE X iter te)
    (test : EltGl X.prog X.w X.mg scope x elt pb) (fold : ∀ v, genFold iter X.env v = pure v) (I : Inv X pins σ H s)
    (h : te σ H fun v G => ∃ z : Str, v = .str z ∧ GxR.TabG G P ∧ R z G)
    (out : ∀ z G g u, R z G → GxR.Ready X pins σ G P z pb g u → W' (.ref g) u) :
    wpAny (model X.prog X.w) X.A (eval (.GeneratorExp elt [⟨.Name x px, iter, [], 0⟩] scope gpos) X.env) W' X.xe s := by
  have depth : X.A.depth < recursionLimit := by
    have := room.dp
    omega
  refine wpAny_GeneratorExp_walksQ room.hd gs.co (closure_ok gs.free) gs.cell gs.dot gs.loc gs.kind depth ?_ fold
  refine thn (src.run pins s σ H _ I h) ?_
  rintro xv s1 ⟨v, G, J, rv, z, rfl, ⟨ps, hP, trip⟩, q⟩
  obtain ⟨tz, rfl⟩ := _root_.id rv
  refine wpAny_pyIter_str fun ob St walk st0 => ?_
  -- what stands where the iterator is laid
  have tb1 : s1.heap.get? P = some { cls := .none, data := .fields ps } := J.hok P _ hP
  have ltP : P < s1.heap.objs.size := Heap.lt_size tb1
  have tb2 : (s1.heap.push ob).get? P = some { cls := .none, data := .fields ps } := Heap.get?_push_of_some _ tb1
  have kept2 : ∀ b u, X.base.get? b = some u → (s1.heap.push ob).get? b = some u := fun b u e => Heap.get?_push_of_some _ (J.bk b u e)
  have code2 := tab.code.keeps kept2
  have free2 : (s1.heap.push ob).NoLimit := J.nolimit.push ob
  have glob1 : s1.heap.Ns X.env.globals X.mg := by
    rw [J.ok.glob]
    exact J.mod.glob.keeps J.bk
  have neG : X.env.globals ≠ P := by
    rw [J.ok.glob]
    exact tab.gP
  have go : ∀ (cv : Value) (h3 : Heap) (tk : Nat) (qs : Array Value), Heap.ExtBut P (s1.heap.push ob) h3 → (s1.heap.push ob).objs.size ≤ h3.objs.size →
      h3.get? P = some { cls := .none, data := .fields qs } → (∃ more, qs = ps ++ more) → TriplesOk qs.toList →
      wpAny (model X.prog X.w) X.A (builtinsFor X.env.globals X.env.builtins) (fun bi s₄ =>
        ∃ it fp wr n Pf S0 pz F, Value.ref s1.heap.objs.size = .ref it ∧ (∀ B : Around, B.handled = none → Walks X.prog X.w B it fp wr n Pf S0) ∧ S0 0 s₄.heap ∧
          (∀ b ∈ fp, b < s₄.heap.objs.size) ∧ s₄.heap.NoLimit ∧ cStatics ∉ wr ∧
          (∀ hr : Heap, (∀ b o, s₄.heap.get? b = some o → hr.get? b = some o) →
            QuietGen X.prog X.w (genEnv scope (cloFrom X.env.cells scope.names []) s₄.heap.objs.size cv bi X.env) x [] elt (List.range s₄.heap.objs.size) wr Pf pz F hr) ∧
          (∀ a h₅ t5 gn, gn.bare = true → s₄.heap.objs.size < a → h₅.objs.size = a + 1 → (∀ b o, s₄.heap.get? b = some o → h₅.get? b = some o) →
            WalksS X.prog X.w X.A.in4 a (a :: s₄.heap.objs.size :: List.range s₄.heap.objs.size) (s₄.heap.objs.size :: wr) (GenOnlyQ s₄.gens.size) (passing pz n 0).length
              (fun j y => ∃ i, (passing pz n 0)[j]? = some i ∧ F i y) (GenAt X.prog X.w X.A.in4 a s₄.gens.size s₄.heap.objs.size (List.range s₄.heap.objs.size) wr pz n F) →
            GenAt X.prog X.w X.A.in4 a s₄.gens.size s₄.heap.objs.size (List.range s₄.heap.objs.size) wr pz n F 0 { s₄ with gens := s₄.gens.push gn, toks := t5, heap := h₅ } →
            W' (.ref a) { s₄ with gens := s₄.gens.push gn, toks := t5, heap := h₅ })) X.xe { s1 with heap := h3, toks := tk } := by
    rintro cv h3 tk qs ext grow tb3 ⟨more, rfl⟩ trip3
    have size2 : (s1.heap.push ob).objs.size = s1.heap.objs.size + 1 := Heap.size_push ..
    have g2 : s1.heap.objs.size < h3.objs.size := by
      rw [size2] at grow
      exact grow
    have old3 : ∀ b u, b ≠ P → s1.heap.get? b = some u → h3.get? b = some u := fun b u nb e => ext b u nb (Heap.get?_push_of_some _ e)
    have glob3 : h3.Ns X.env.globals X.mg := (glob1.push ob).extBut ext neG
    obtain ⟨lim, limN, _⟩ := id J.nolimit
    have stP : cStatics ≠ P := by
      intro e
      obtain ⟨_, ns, _⟩ := J.nolimit
      obtain ⟨o', es, ep, ho, hd, _⟩ := ns
      rw [e, tb1] at ho
      cases ho
      cases hd
    have stL : cStatics < s1.heap.objs.size := by
      obtain ⟨_, ns, _⟩ := J.nolimit
      exact ns.lt
    obtain ⟨bm, bo, c1, c2, c3, c4, c5, c6, c7, c8⟩ := tab.bm
    refine wpAny_builtinsFor (m := X.mg) glob3 c1 c2 (old3 _ _ c4 (J.bk _ _ c5)) c6 c7 c8 ?_
    refine ⟨s1.heap.objs.size, [s1.heap.objs.size], [s1.heap.objs.size], z.cps.size, SignAt z, St, fun _ => true, fun i y => ∃ d, z.cps[i]? = some d ∧ y = .bool (pb d), rfl, walk, ?_, ?_, free2.extBut ext stP, ?_, ?_, ?_⟩
    · refine (walk X.A room.hd).frame _ _ _ st0 fun b hb u e => ext b u (fun q2 => ?_) e
      have hb : b = s1.heap.objs.size := by simpa using hb
      exact absurd ltP (by rw [← q2, hb]; exact Nat.lt_irrefl _)
    · intro b hb
      have hb : b = s1.heap.objs.size := by simpa using hb
      rw [hb]
      exact g2
    · intro m
      have m : cStatics = s1.heap.objs.size := by simpa using m
      exact absurd stL (by rw [m]; exact Nat.lt_irrefl _)
    · intro hr keep
      refine ⟨fun B F i v u m _ _ _ _ _ => ?_, fun B F i v u m _ pv _ hn hm kept => ?_⟩
      · rw [List.forIn_nil]
        exact wpAny_pure ⟨rfl, GxR.keeps_refl _⟩
      · obtain ⟨d, ud, ed, rfl⟩ := pv
        have gl : u.heap.Ns X.env.globals X.mg := by
          have lt1 := glob1.lt
          obtain ⟨o, es, ep, ho, r⟩ := glob3
          refine ⟨o, es, ep, kept _ (List.mem_range.mpr ?_) ?_ _ (keep _ _ ho), r⟩
          · show X.env.globals < h3.objs.size
            exact Heap.lt_size ho
          · intro m2
            have m2 : X.env.globals = s1.heap.objs.size := by simpa using m2
            exact absurd lt1 (by rw [m2]; exact Nat.lt_irrefl _)
        exact wpAny_mono (test _ B F d ud u m rfl gl hn hm) (fun y v2 r => ⟨⟨d, ed, r.1⟩, r.2⟩) fun _ _ e => e
    · intro g h5 t5 gn bare lt5 size5 keep5 W5 at5
      rw [GxR.passing_true, List.length_range] at W5
      refine out z G g _ q ⟨_, _, _, _, _, W5.in4_1, at5, ?_, fun s' mv => ?_⟩
      · rintro j y sj Qj Ej ⟨i, ij, d, ed, rfl⟩ hq
        obtain ⟨_, ei⟩ := List.getElem?_eq_some_iff.mp ij
        rw [List.getElem_range] at ei
        rw [ei] at hq
        have e9 : z.cps.toList[i]? = some d := by
          rw [Array.getElem?_toList]
          exact ed
        have hq2 : Qj (GxR.trF pb z.cps.toList i) sj := hq
        rw [GxR.trF_some e9] at hq2
        exact wpAny_truthy_bool hq2
      · have off : ∀ b u, s1.heap.get? b = some u → b ∉ h3.objs.size :: [s1.heap.objs.size] := by
          intro b u e m
          have l1 := Heap.lt_size e
          simp only [List.mem_cons, List.not_mem_nil, or_false] at m
          rcases m with m | m
          · rw [m] at l1
            exact Nat.lt_irrefl _ (Nat.lt_trans g2 l1)
          · rw [m] at l1
            exact Nat.lt_irrefl _ l1
        have up : ∀ b u, b ≠ P → s1.heap.get? b = some u → s'.heap.get? b = some u := fun b u nb e => mv.heap b u (off b u e) (keep5 b u (old3 b u nb e))
        have upP := mv.heap P _ (off P _ tb1) (keep5 P _ tb3)
        have J' := GxR.inv_tab (more := more) (h' := s'.heap) (g' := s'.gens) (d' := s'.drawn) (t' := s'.toks) J hP up upP (AllBare.movedS (J.bare.push bare) mv)
        rw [GxR.sh_eta s1 s' mv.os] at J'
        exact ⟨_, ⟨⟨_, upd_same, trip3⟩, fun b nb => upd_ne nb⟩, J'⟩
  refine ⟨free2, ?_⟩
  cases seen : codeAmong gpos ps.toList with
  | some cv => exact wpAny_genexprCode_hit cd0 (code2.code tb2 trip) seen (go cv _ _ ps (Heap.ExtBut.refl _ _) (Nat.le_refl _) tb2 ⟨#[], by simp⟩ trip)
  | none =>
    refine wpAny_genexprCodeX cd0 (code2.code tb2 trip) (code2.tab tb2) seen ?_
    intro c' h' t' ext ge lt isC _ tabC _
    have trip' : TriplesOk (ps ++ #[rawInt gpos.line, rawInt gpos.col, .ref c']).toList := by
      obtain ⟨_, _, _, _, _, _, _, _, _, _, _, _, _, _, _, _, _, _, _, r, _⟩ := isC
      exact r
    exact go _ h' t' _ ext (Nat.le_trans ge (Nat.le_of_lt lt)) tabC.2 ⟨_, rfl⟩ trip'
theorem pe_allGl {c P : Addr} {elt iter : Expr} {x : Str} {px p pos gpos : Pos} {scope : Scope} {pb : Nat → Bool} {te : TE} {k : Nat}
    (room : Room k X.A) (hg : Gl X "all") (hm : X.mg "all" = none) (hb : bootBuiltins "all" = some (.builtin "all")) (tab : GxR.TabB X.base X.mg c P) (cd0 : X.env.code = .ref c)
    (gs : GxR.GenS X.env scope x) (src : PE X iter te) (test : EltGl X.prog X.w X.mg scope x elt pb) (fold : ∀ v, genFold iter X.env v = pure v)
    (one : starEach [.GeneratorExp elt [⟨.Name x px, iter, [], 0⟩] scope gpos] X.env = (false, eval (.GeneratorExp elt [⟨.Name x px, iter, [], 0⟩] scope gpos) X.env) :: starEach [] X.env := by rfl) :
    PE X (.Call (.Name "all" p) [.GeneratorExp elt [⟨.Name x px, iter, [], 0⟩] scope gpos] [] pos) (GxR.tAllS P pb te) := by
  constructor
  intro pins s σ H Q I h
  refine wpAny_Call_Name_kw (ld_blt I hg hm hb (PyProof.Rows.callWith_builtin1 ?_ one (by rfl)))
  rw [one]
  refine Calls.spliced_cons (gen_gl (R := fun z G => ∀ H2, GxR.Tabbed P G H2 → Q (.bl (z.cps.toList.all pb)) H2) room tab cd0 gs src test fold I h ?_)
  rintro z G g u hR ⟨fp, wr, Gq, F, St, W, st, tr, inv⟩
  refine Calls.spliced_nil (call_all_walkS (W.self 0 _ _ _ st ⟨g, fp, wr, Gq, _, F, St, _, rfl, W, st, tr, fun s' mv => ?_⟩))
  obtain ⟨H2, tb, J⟩ := inv s' mv
  rw [GxR.all_signs]
  exact ⟨.bl (z.cps.toList.all pb), H2, J, rfl, hR H2 tb⟩
end
/-- x in g, g a text of the module -/
theorem elt_inG {prog : Program} {w : World} {mg : Str → Option Value} {scope : Scope} {x g : Str} {z : Str} {tk : Tok} {p1 p2 p3 : Pos} (hk : scope.kind = .function) (hl : scope.names.lookup x = some .local) (hg : scope.names.lookup g = some .globalImplicit) (hz : mg g = some (.str z tk))
    (d1 : (x == ("__debug__" : Str)) = false := by decide) (d2 : (g == ("__debug__" : Str)) = false := by decide) :
    EltGl prog w mg scope x (.Compare (.Name x p1) [.In] [.Name g p2] p3) fun c => decide (c ∈ z.cps.toList) := by
  intro fr B F c t u m es hG hn hm
  subst es
  refine wpAny_Compare1 (wpAny_Name (wpAny_loadName_local hk hl hn hm ?_) d1)
  refine Calls.Name_function_global hk hg (Calls.loadGlobal_global hG hz ?_) d2
  refine PySem.P.in_str ⟨?_, GxR.keeps_refl _⟩
  rw [StrLaws.found_one z c]
end YF

set_option linter.all false
set_option maxHeartbeats 400000
/-! for i, x in enumerate(xs, start=k) -/
namespace YF
open PySem PySem.Spec PyProof.Rows L2
/-- the list at a; the i-th turn brings a new pair of k + i and the i-th item -/
def ItK (K : PySem.W.Frag) (k : Int) (a : Addr) : It where
  go := fun i H => ∃ (xs : List V) (x : V), SqL K H a xs ∧ xs[i]? = some x
  yld := fun i H v H' => ∃ T x, v = .ref T ∧ H T = none ∧ H' = upd H T (.tup [.int (k + (i : Int)), x]) ∧ ∀ xs, SqL K H a xs → xs[i]? = some x
  stop := fun i H => ∃ xs : List V, SqL K H a xs ∧ xs.length = i
theorem turn_enumK {P : Program} {w : World} {K : PySem.W.Frag} {elts : List Expr} {kk : Nat} {tpos : Pos} (k : Int) (a e it : Addr) (na : a ≠ it) (ea : e ≠ a) :
    Turn P w K (.Tuple elts kk tpos) (ItK K k a) [e, it] e (fun i h => (∃ old, IsEnum h e it (k + (i : Int)) old) ∧ h.IsListIter it a i ∧ e ≠ it) := by
  have two : ∀ {b : Addr}, b ∈ [e, it] → b = e ∨ b = it := fun m => by simpa using m
  constructor
  · exact List.mem_cons_self
  · rintro i h ⟨⟨old, he⟩, ⟨o, ho, _, hd⟩, _⟩ b hb
    rcases two hb with rfl | rfl
    · exact ⟨_, he, fun v q => nomatch q⟩
    · refine ⟨o, ho, fun v q => ?_⟩
      rw [hd] at q
      cases q
  · rintro i h h' ⟨⟨old, he⟩, hi, ne⟩ kp
    exact ⟨⟨old, kp e (by simp) _ he⟩, hi.at fun o q => kp it (by simp) o q, ne⟩
  · rintro X rfl rfl rfl calm i pins s σ H E I fp ⟨⟨old, he⟩, hi, ne⟩ ⟨xs, x, hq, hx⟩
    obtain ⟨us, vals, isl, _⟩ := I.list hq
    obtain ⟨u, hu, ru⟩ := vals.get hx
    have lte : e < s.heap.objs.size := Heap.lt_size he
    have lti : it < s.heap.objs.size := by
      obtain ⟨_, q, _⟩ := hi
      exact Heap.lt_size q
    have nx : i < us.toArray.size := by
      rw [List.size_toArray]
      exact (List.getElem?_eq_some_iff.mp hu).1
    refine wpAny_pyNext_enum_itemC (Draws.list (A := X.A.in1) (I.ok.hd calm) it a na us.toArray) he ⟨hi, isl.isList⟩ nx ne (by simp [ne, ea]) ?_
    rintro y h' tk hy out ⟨hi', _⟩ hT grown kept
    have ey : y = u := by
      rw [List.getElem?_toArray, hu] at hy
      exact (Option.some.inj hy).symm
    rw [ey] at out hT
    refine ⟨_, rfl, wpAny_letOwnedTupleGo_enum out fun h2 he2 but => ?_⟩
    have tup2 : h2.get? s.heap.objs.size = some { cls := .type "tuple", data := .seq #[.int (k + (i : Int)) tk, u] } := by
      rw [but.2 _ (Nat.ne_of_gt lte)]
      exact hT
    have rest2 : ∀ b o, b ∉ [e, it] → s.heap.get? b = some o → h2.get? b = some o := fun b o nb q => by
      have n1 : b ≠ e := fun z => nb (by rw [z]; simp)
      have n2 : b ≠ it := fun z => nb (by rw [z]; simp)
      rw [but.2 b n1]
      exact kept b o n1 n2 q
    have ok2 : ObjOk X.prog X.w (upd H s.heap.objs.size (.tup [.int (k + (i : Int)), x])) h2 s.heap.objs.size (.tup [.int (k + (i : Int)), x]) :=
      ⟨show 2 ≤ sizeLine by decide, [.int (k + (i : Int)) tk, u], .cons ⟨_, rfl⟩ (.cons ru .nil), ⟨_, tup2, rfl, _, rfl⟩⟩
    have J := I.turnedNew (t' := tk + 1) (ch := [e, it]) rest2 fp (Nat.le_refl _) ok2
    refine ⟨.ref s.heap.objs.size, _, J, rfl, ⟨_, x, rfl, I.hok.fresh (Nat.le_refl _), rfl, fun ys hy2 => ?_⟩, ⟨⟨u, ?_⟩, hi'.at fun o q => (but.2 it (Ne.symm ne)).trans q, ne⟩, fun b hb => ?_⟩
    · rw [I.list_inj hy2 hq]
      exact hx
    · have ei : k + ((i + 1 : Nat) : Int) = k + (i : Int) + 1 := by omega
      rw [ei]
      exact he2
    · have lb : b < s.heap.objs.size := by
        rcases two hb with rfl | rfl
        · exact lte
        · exact lti
      rw [upd_ne (Nat.ne_of_lt lb)]
      exact (fp b hb).1
  · rintro X rfl rfl rfl calm i pins s σ H E I fp ⟨⟨old, he⟩, hi, ne⟩ ⟨xs, hq, len⟩
    obtain ⟨us, vals, isl, _⟩ := I.list hq
    have sz : us.toArray.size = i := by
      rw [List.size_toArray, ← vals.length]
      exact len
    refine wpAny_pyNext_enum_endD (Draws.list (A := X.A.in1) (I.ok.hd calm) it a na us.toArray) he (by rw [sz]; exact ⟨hi, isl.isList⟩) fun h' but => ⟨rfl, ?_⟩
    obtain ⟨f0, f1, _, f3, f4, f5⟩ := fp it (by simp)
    exact I.turned (t' := s.toks) (fun b o nb q => but b o nb q) f0 f1 f3 f4 f5
  · rintro B i s Q E ⟨⟨_, he⟩, _⟩ q
    exact wpAny_pyIter_enum he q
theorem walk_enumK {K : PySem.W.Frag} {k : Int} {a : Addr} {xs : List V} : Walk (ItK K k a) xs.length (fun H => SqL K H a xs) (fun i H v H' => ∃ T x, v = .ref T ∧ H T = none ∧ H' = upd H T (.tup [.int (k + (i : Int)), x]) ∧ xs[i]? = some x) where
  goes := fun i H hi h => ⟨xs, xs[i], h, List.getElem?_eq_getElem hi⟩
  stops := fun H h => ⟨xs, h, rfl⟩
  yields := fun i H v H' _ h ⟨T, x, e1, e2, e3, e4⟩ => ⟨T, x, e1, e2, e3, e4 xs h⟩
def iEnumK (K : PySem.W.Frag) (k : Int) (ta : TA) : TI := fun σ H R => ta σ H fun vs H1 => ∃ a xs, vs = [.ref a] ∧ SqL K H1 a xs ∧ R (ItK K k a) H1
/-- a built-in class called with keywords, its arguments evaluated -/
theorem call_tyK {M : Model} {A : Around} {E : Value → Shared → Prop} {s : Shared} {pos : Pos} {T : String} {x : Sem Value} {rest : List (Bool × Sem Value)} {kws : List (Option Str × Sem Value)} {Q : Value → Shared → Prop}
    (plain : ((false, x) :: rest).any (·.1) = false) (some_ : kws.all (·.1.isSome) = true) (none_ : kws.any (·.1.isNone) = false)
    (h : wpAny M A (spliced ((false, x) :: rest)) (fun vs s1 => wpAny M A (evalAll (kws.map (·.2))) (fun ws s2 => wpAny M A (call (.type T) vs ((kws.filterMap (·.1)).zip ws)) Q E s2) E s1) E s) :
    wpAny M A (callWith pos (.type T) [] ((false, x) :: rest) kws) Q E s := by
  unfold callWith
  have ev : wpAny M A (evalArgs (.type T) true ((false, x) :: rest) kws) (fun a s1 => wpAny M A (call (.type T) a.pos a.kw) Q E s1) E s := PyProof.Rows.evalArgs_kwB some_ h
  refine wpAny_bind (wpAny_holding (wpAny_mono ev ?_ fun _ _ y => y))
  intro a s1 h1
  refine wpAny_bind (wpAny_standAt ?_)
  simp only [plain, none_, Bool.or_false]
  refine wpAny_bind (wpAny_pure (wpAny_bind (wpAny_mono h1 ?_ fun _ _ y => y)))
  intro r s2 hr
  exact wpAny_bind (wpAny_holding (wpAny_point (wpAny_pure hr)))
theorem pi_enumK {X : Cx} {e : Expr} {ta : TA} {p pos tpos : Pos} {elts : List Expr} {kk : Nat} {k : Int} {es : List Expr} {kws : List Keyword} (hg : Gl X "enumerate") (hm : X.mg "enumerate" = none) (h0 : -(2 ^ 63) ≤ k) (h1 : k < 2 ^ 63) (ha : PA X (e :: es) ta) (hk : PK X kws (tCons (tC (.int k)) tNil))
    (he : backTo pos (starEach (e :: es) X.env) = (false, eval e X.env) :: backTo pos (starEach es X.env) := by rfl) (hpl : (backTo pos (starEach (e :: es) X.env)).any (·.1) = false := by rfl)
    (hall : (backToKw pos (keywordEach kws X.env)).all (·.1.isSome) = true := by rfl) (hnone : (backToKw pos (keywordEach kws X.env)).any (·.1.isNone) = false := by rfl) (hks : (backToKw pos (keywordEach kws X.env)).filterMap (·.1) = [Str.ofString "start"] := by rfl) :
    PI X (.Tuple elts kk tpos) (.Call (.Name "enumerate" p) (e :: es) kws pos) (iEnumK X.K k ta) := by
  constructor
  intro pins s σ H R I h
  refine wpAny_Call_Name_kw (ld_blt I hg hm boot_enumerate ?_)
  rw [he] at hpl ⊢
  refine call_tyK hpl hall hnone ?_
  rw [← he]
  refine thn (ha.run pos pins s σ H (fun vs H1 => ∃ a xs, vs = [.ref a] ∧ SqL X.K H1 a xs ∧ R (ItK X.K k a) H1) I h) fun us s1 g1 => ?_
  obtain ⟨vs, H1, I1, r1, a, xs, ev, hq, q⟩ := g1
  have hz : (tCons (tC (.int k)) tNil) σ H1 (fun zs H2 => zs = [V.int k] ∧ H2 = H1) := ⟨rfl, rfl⟩
  refine thn (hk.run pos pins s1 σ H1 (fun zs H2 => zs = [V.int k] ∧ H2 = H1) I1 hz) fun ws s2 g2 => ?_
  obtain ⟨zs, H2, I2, r2, ez, eH⟩ := g2
  rw [hks]
  subst ev eH ez
  cases r1 with
  | cons ra rn =>
    cases rn
    cases ra
    cases r2 with
    | cons rk rm =>
      cases rm
      obtain ⟨tk, rfl⟩ := _root_.id rk
      obtain ⟨its, vals, isl, _⟩ := I2.list hq
      refine enum_begins_start (begins_list a its.toArray) isl.isList h0 h1 fun h' he' hit' sz kept => ?_
      have la : a < s2.heap.objs.size := by
        obtain ⟨o, ho, _⟩ := isl.isList
        exact Heap.lt_size ho
      have I3 : Inv X pins σ H2 { s2 with heap := h' } := I2.kept (t' := s2.toks) kept
      refine wpAny_pyIter_enum he' ⟨s2.heap.objs.size + 1, [s2.heap.objs.size + 1, s2.heap.objs.size], _, _, H2, rfl, I3, turn_enumK k a (s2.heap.objs.size + 1) s2.heap.objs.size (Nat.ne_of_lt la) (Nat.ne_of_gt (Nat.lt_succ_of_lt la)), ⟨⟨.none, ?_⟩, ⟨_, hit', rfl, rfl⟩, Nat.succ_ne_self _⟩, fun b hb => ?_, q⟩
      · have e0 : k + ((0 : Nat) : Int) = k := by omega
        rw [e0]
        exact he'
      · have le : s2.heap.objs.size ≤ b := by
          simp only [List.mem_cons, List.not_mem_nil, or_false] at hb
          rcases hb with hb | hb
          · rw [hb]
            exact Nat.le_succ _
          · rw [hb]
            exact Nat.le_refl _
        exact I2.fpOk le (I2.hok.fresh le)
end YF

/-! what stays but for what stands at some addresses; dicts from ints to ints -/
namespace YG
open PySem PySem.Spec PyProof.Rows L2
open YF hiding St
abbrev St := L2.St
/-- nothing but what stands at addresses of X is otherwise -/
def Fr (X : List Addr) (H H' : Hp) : Prop := ∀ b o, b ∉ X → H b = some o → H' b = some o
/-- the part that stays -/
def kp (X : List Addr) (H : Hp) : Hp := fun b => if b ∈ X then none else H b
section
variable {X Y : List Addr} {H H1 H2 H' : Hp} {a b : Addr} {o u : HO}
theorem Fr.refl : Fr X H H := fun _ _ _ h => h
theorem Fr.trans (s : Fr X H H1) (t : Fr X H1 H2) : Fr X H H2 := fun b o n h => t b o n (s b o n h)
theorem Fr.of (s : Same H H') : Fr X H H' := fun b o _ h => s b o h
theorem Fr.more (s : Fr X H H') (h : ∀ a ∈ X, a ∈ Y) : Fr Y H H' := fun b o n e => s b o (fun m => n (h b m)) e
theorem Fr.new (s : Fr X H H') (h : H' a = none) : Fr X H (upd H' a o) := fun b u n e => by
  have q := s b u n e
  rw [upd_ne (ne_of_none q h)]
  exact q
theorem Fr.wr (s : Fr X H H') (h : a ∈ X) : Fr X H (upd H' a o) := fun b u n e => by
  rw [upd_ne (fun z => n (by rw [z]; exact h))]
  exact s b u n e
theorem Fr.less (s : Fr (a :: X) H H') (h : H a = none) : Fr X H H' := fun b u n e => s b u (fun m => by
  rcases List.mem_cons.mp m with m | m
  · rw [m, h] at e
    cases e
  · exact n m) e
theorem Fr.same (s : Fr [] H H') : Same H H' := fun b u e => s b u (by simp) e
theorem kp_in (h : a ∈ X) : kp X H a = none := if_pos h
theorem kp_out (h : a ∉ X) : kp X H a = H a := if_neg h
theorem kp_at (e : H a = some o) (h : a ∉ X) : kp X H a = some o := by rw [kp_out h, e]
theorem kp_some (e : kp X H a = some o) : a ∉ X ∧ H a = some o := by
  by_cases h : a ∈ X
  · rw [kp_in h] at e
    cases e
  · rw [kp_out h] at e
    exact ⟨h, e⟩
theorem kp_none (e : H a = none) : kp X H a = none := by
  by_cases h : a ∈ X
  · exact kp_in h
  · rw [kp_out h, e]
theorem kp_sub : Same (kp X H) H := fun _ _ e => (kp_some e).2
theorem Fr.kp (s : Fr X H H') : Same (kp X H) (kp X H') := fun b o e => kp_at (s b o (kp_some e).1 (kp_some e).2) (kp_some e).1
theorem Fr.base (s : Fr X H H') : Same (YG.kp X H) H' := fun b o e => s b o (kp_some e).1 (kp_some e).2
theorem kp_more (h : ∀ a ∈ X, a ∈ Y) : Same (YG.kp Y H) (YG.kp X H) := fun b o e => kp_at (kp_some e).2 fun m => (kp_some e).1 (h b m)
theorem Same.kpX {B : Hp} (s : Same B H) (h : ∀ a ∈ X, B a = none) : Same B (YG.kp X H) := fun b o e => kp_at (s b o e) fun m => by
  rw [h b m] at e
  cases e
theorem kp_nil : kp [] H = H := funext fun b => kp_out (by simp)
end
/-! a list of ints -/
def Row (H : Hp) (p : Addr) : Prop := ∃ ns : List Int, H p = some (.lst (ns.map V.int))
section
variable {H : Hp} {p a : Addr} {o : HO}
theorem Row.ne (r : Row H p) (h : H a = none) : a ≠ p := by
  obtain ⟨ns, e⟩ := r
  exact (ne_of_none e h).symm
theorem Row.upd (r : Row H p) (h : a ≠ p) : Row (upd H a o) p := by
  obtain ⟨ns, e⟩ := r
  exact ⟨ns, by rw [upd_ne h.symm]; exact e⟩
theorem Row.new (r : Row H p) (h : H a = none) : Row (L2.upd H a o) p := r.upd (r.ne h)
theorem Row.same {H' : Hp} (r : Row H p) (s : Same H H') : Row H' p := by
  obtain ⟨ns, e⟩ := r
  exact ⟨ns, s _ _ e⟩
end
/-! two rows of one length -/
theorem paired_len {α β : Type} {F : α → β → Prop} {l : List α} {vs : List β} (h : Paired F l vs) : vs.length = l.length := by
  induction h with
  | nil => rfl
  | cons _ _ ih => simp [ih]
theorem paired_snoc {α β : Type} {F : α → β → Prop} : ∀ {l : List α} {vs : List β} {x : α} {v : β}, Paired F l vs → F x v → Paired F (l ++ [x]) (vs ++ [v])
  | [], [], _, _, .nil, h => .cons h .nil
  | _ :: _, _ :: _, _, _, .cons h t, k => .cons h (paired_snoc t k)
theorem paired_at {α β : Type} {F : α → β → Prop} : ∀ {l : List α} {vs : List β} {i : Nat} {x : α}, Paired F l vs → l[i]? = some x → ∃ v, vs[i]? = some v ∧ F x v
  | a :: _, b :: _, 0, x, .cons h _, e => by
    have e2 : a = x := by simpa using e
    exact ⟨b, rfl, by rw [← e2]; exact h⟩
  | _ :: l, _ :: vs, i + 1, x, .cons _ t, e => by
    obtain ⟨v, h1, h2⟩ := paired_at (i := i) (x := x) t (by simpa using e)
    exact ⟨v, by simpa using h1, h2⟩
theorem paired_at2 {α β : Type} {F : α → β → Prop} : ∀ {l : List α} {vs : List β} {i : Nat} {v : β}, Paired F l vs → vs[i]? = some v → ∃ x, l[i]? = some x ∧ F x v
  | [], [], i, v, .nil, e => by simp at e
  | a :: _, b :: _, 0, v, .cons h _, e => by
    have e2 : b = v := by simpa using e
    exact ⟨a, rfl, by rw [← e2]; exact h⟩
  | _ :: l, _ :: vs, i + 1, v, .cons _ t, e => by
    obtain ⟨x, h1, h2⟩ := paired_at2 (i := i) (v := v) t (by simpa using e)
    exact ⟨x, by simpa using h1, h2⟩
/-- the same rows in another order -/
theorem paired_perm {α β : Type} {F : α → β → Prop} {l l' : List α} (p : l'.Perm l) : ∀ {vs : List β}, Paired F l vs → ∃ vs', vs'.Perm vs ∧ Paired F l' vs' := by
  induction p with
  | nil =>
    intro vs h
    exact ⟨vs, .refl _, h⟩
  | cons x p ih =>
    intro vs h
    cases h with
    | cons h t =>
      obtain ⟨ws, p1, h1⟩ := ih t
      exact ⟨_, .cons _ p1, .cons h h1⟩
  | swap x y l =>
    intro vs h
    cases h with
    | cons h t =>
      cases t with
      | cons h2 t => exact ⟨_, .swap _ _ _, .cons h2 (.cons h t)⟩
  | trans p q ih1 ih2 =>
    intro vs h
    obtain ⟨ws, p1, h1⟩ := ih2 h
    obtain ⟨ws2, p2, h2⟩ := ih1 h1
    exact ⟨ws2, p2.trans p1, h2⟩
/-! dicts from ints to ints -/
abbrev Mp := List (Int × Int)
def kvI (l : Mp) : List (Key × V) := l.map fun q => (.inl q.1, .int q.2)
def getI (l : Mp) (i : Int) : Option Int := (l.find? fun q => decide (q.1 = i)).map (·.2)
def putI (l : Mp) (i x : Int) : Mp := if (l.any fun q => decide (q.1 = i)) = true then l.map (fun q => if q.1 = i then (q.1, x) else q) else l ++ [(i, x)]
theorem keyI {i j : Int} : ((Sum.inl i : Key) = .inl j) ↔ i = j := ⟨fun h => Sum.inl.inj h, fun h => by rw [h]⟩
theorem valV_kvI (i : Int) : ∀ l : Mp, valV (kvI l) (.inl i : Key) = (getI l i).map V.int
  | [] => rfl
  | q :: r => by
    have ih := valV_kvI i r
    by_cases h : q.1 = i
    · rw [show kvI (q :: r) = (.inl q.1, .int q.2) :: kvI r from rfl, valV_pos (keyI.mpr h)]
      simp [getI, h]
    · rw [show kvI (q :: r) = (.inl q.1, .int q.2) :: kvI r from rfl, valV_neg (fun z => h (keyI.mp z)), ih]
      simp [getI, h]
theorem putK_kvI {l : Mp} {i x : Int} : putK (kvI l) (.inl i : Key) (.int x) = kvI (putI l i x) := by
  have e : ((kvI l).any fun kv => decide (kv.1 = (.inl i : Key))) = l.any fun q => decide (q.1 = i) := by
    unfold kvI
    rw [List.any_map]
    refine congrArg (fun f => List.any l f) (funext fun q => ?_)
    simp [keyI]
  unfold putK putI
  rw [e]
  by_cases h : (l.any fun q => decide (q.1 = i)) = true
  · rw [if_pos h, if_pos h]
    unfold kvI
    rw [List.map_map, List.map_map]
    refine List.map_congr_left fun q _ => ?_
    by_cases h2 : q.1 = i
    · simp [h2]
    · simp [h2]
  · rw [if_neg h, if_neg h]
    unfold kvI
    rw [List.map_append]
    rfl
theorem getI_mem {l : Mp} {i x : Int} (h : getI l i = some x) : (i, x) ∈ l := by
  unfold getI at h
  cases e : l.find? fun q => decide (q.1 = i) with
  | none =>
    rw [e] at h
    cases h
  | some q =>
    rw [e] at h
    have h1 := List.find?_some e
    have h2 := List.mem_of_find?_eq_some e
    have h3 : q.2 = x := by simpa using h
    have h4 : q.1 = i := by simpa using h1
    rw [← h3, ← h4]
    exact h2
theorem getI_of {l : Mp} (n : (l.map (·.1)).Nodup) {i x : Int} (h : (i, x) ∈ l) : getI l i = some x := by
  induction l with
  | nil => cases h
  | cons q r ih =>
    rw [List.map_cons, List.nodup_cons] at n
    unfold getI
    rcases List.mem_cons.mp h with h | h
    · rw [← h]
      simp
    · have h2 : ¬ q.1 = i := fun z => n.1 (List.mem_map.mpr ⟨_, h, z.symm⟩)
      have h3 := ih n.2 h
      unfold getI at h3
      rw [List.find?_cons_of_neg (by simpa using h2)]
      exact h3
theorem putI_mem {l : Mp} {i x : Int} {q : Int × Int} (h : q ∈ putI l i x) : q ∈ l ∨ q = (i, x) := by
  unfold putI at h
  split at h
  · obtain ⟨r, h1, h2⟩ := List.mem_map.mp h
    by_cases z : r.1 = i
    · rw [if_pos z] at h2
      exact .inr (by rw [← h2, z])
    · rw [if_neg z] at h2
      exact .inl (by rw [← h2]; exact h1)
  · rcases List.mem_append.mp h with h | h
    · exact .inl h
    · exact .inr (List.mem_singleton.mp h)
theorem putI_nodup {l : Mp} {i x : Int} (n : (l.map (·.1)).Nodup) : ((putI l i x).map (·.1)).Nodup := by
  unfold putI
  split
  · have e : (l.map fun q => if q.1 = i then (q.1, x) else q).map (·.1) = l.map (·.1) := by
      rw [List.map_map]
      refine List.map_congr_left fun q _ => ?_
      by_cases z : q.1 = i
      · simp [z]
      · simp [z]
    rw [e]
    exact n
  · rename_i h
    rw [List.map_append, List.nodup_append]
    refine ⟨n, by simp, fun a h1 b h2 z => h ?_⟩
    obtain ⟨q, h3, h4⟩ := List.mem_map.mp h1
    have h5 : b = i := by simpa using h2
    exact List.any_eq_true.mpr ⟨q, h3, by simp [h4, z, h5]⟩
theorem putI_len {l : Mp} {i x : Int} : (putI l i x).length ≤ l.length + 1 := by
  unfold putI
  split
  · simp
  · simp
/-- keys from 0 to n, none twice, few -/
structure OkD (n m : Nat) (l : Mp) : Prop where
  key : ∀ q ∈ l, 0 ≤ q.1 ∧ q.1 < n
  nod : (l.map (·.1)).Nodup
  len : l.length ≤ m
theorem OkD.nil {n m : Nat} : OkD n m [] := ⟨fun q h => (by cases h), by simp, Nat.zero_le _⟩
theorem OkD.put {n m : Nat} {l : Mp} {i x : Int} (h : OkD n m l) (h0 : 0 ≤ i) (h1 : i < n) : OkD n (m + 1) (putI l i x) :=
  ⟨fun q hq => by
    rcases putI_mem hq with hq | hq
    · exact h.key q hq
    · rw [hq]
      exact ⟨h0, h1⟩, putI_nodup h.nod, Nat.le_trans putI_len (Nat.succ_le_succ h.len)⟩
theorem OkD.more {n m m' : Nat} {l : Mp} (h : OkD n m l) (k : m ≤ m') : OkD n m' l := ⟨h.key, h.nod, Nat.le_trans h.len k⟩
/-! what is read in a comprehension, by K -/
@[reducible] def rLenS (K : PySem.W.Frag) : List V → Hp → VK → Prop := fun vs H Q => ∃ p ys, vs = [.ref p] ∧ (SqL K H p ys ∨ SqT K H p ys) ∧ Q (.int ys.length) H
/-! terms -/
section
variable {K : PySem.W.Frag} {σ : St} {H : Hp} {ta tb tc te : TE} {p : Addr} {i : Int} {l : Mp}
theorem te_getI {x : Int} (ha : Te ta σ H (.ref p)) (hb : Te tb σ H (.int i)) (h : H p = some (.dK (kvI l))) (e : getI l i = some x) : Te (tDGet ta tb) σ H (.int x) :=
  te_dgetI ha hb h (by rw [valV_kvI, e]; rfl)
theorem te_getF {x : Int} {od : Obj} (ha : Te ta σ H (.ref p)) (hb : Te tb σ H (.int i)) (h : H p = some (.frz od (.dK (kvI l)))) (e : getI l i = some x) : Te (tDGet ta tb) σ H (.int x) := fun Q q =>
  ha _ (hb _ ⟨p, _, rfl, .inl ⟨kvI l, .inl i, .inr ⟨_, h⟩, rfl, by rw [valV_kvI, e]; rfl⟩, q⟩)
theorem st_putI {D : Ends} {x : Int} (h : Te te σ H (.int x)) (hp : Te ta σ H (.ref p)) (hi : Te tb σ H (.int i)) (e : H p = some (.dK (kvI l))) (hl : l.length < sizeLine) (r : D.nx σ (upd H p (.dK (kvI (putI l i x))))) :
    sDPut ta tb te D σ H := st_dputI h hp hi e (by unfold kvI; rw [List.length_map]; exact hl) (by rw [putK_kvI]; exact r)
end
/-! loops and comprehensions over whatever is walked -/
section
variable {K : PySem.W.Frag} {σ : St} {H : Hp} {te : TE} {a d : Addr} {xs : List V} {J : It} {wi : TI} {g : TG} {tb : TS} {D : Ends} {n : Nat} {G : Hp → Prop} {Y : Nat → Hp → V → Hp → Prop} {kvs : List (Key × V)} {o : Obj}
theorem Tt.go {t : TT} {b : Bool} {Q : Bool → Hp → Prop} (h : Tt t σ H b) (k : Q b H) : t σ H Q := h Q k
theorem Te.go {v : V} {Q : VK} (h : Te te σ H v) (k : Q v H) : te σ H Q := h Q k
/-- what is walked, the heap as it was -/
def Ti (wi : TI) (σ : St) (H : Hp) (J : It) : Prop := ∀ R : It → Hp → Prop, R J H → wi σ H R
theorem ti_rng {m : Int} (h : Te te σ H (.int m)) (h0 : 0 ≤ m) (h1 : m ≤ 100000) : Ti (iRng1 (tCons te tNil)) σ H (Itr 0 m.toNat) := fun R q => h _ ⟨m, rfl, by omega, by omega, q⟩
theorem ti_rngN (h : Te te σ H (.int (n : Int))) (h1 : n ≤ 100000) : Ti (iRng1 (tCons te tNil)) σ H (Itr 0 n) := fun R q => h _ ⟨(n : Int), rfl, by omega, by omega, q⟩
theorem ti_list (h : Te te σ H (.ref a)) (hs : SqL K H a xs) : Ti (iList K te) σ H (Itl K a) := fun R q => h _ ⟨a, rfl, ⟨xs, hs⟩, q⟩
theorem ti_enum (h : Te te σ H (.ref a)) (hs : SqL K H a xs) : Ti (iEnum K (tCons te tNil)) σ H (Ite K a) := fun R q => h _ ⟨a, xs, rfl, hs, q⟩
theorem ti_items (h : Te te σ H (.ref d)) (e : H d = some (.frz o (.dK kvs))) : Ti (iItems te) σ H (Iti d o kvs) := fun R q => h _ ⟨d, o, kvs, rfl, e, q⟩
theorem ti_keys (h : Te te σ H (.ref d)) (e : H d = some (.frz o (.dK kvs))) : Ti (iKeys te) σ H (Itk d o kvs) := fun R q => h _ ⟨d, o, rfl, .inl ⟨kvs, e, q⟩⟩
theorem for_go (t : Ti wi σ H J) (w : Walk J n G Y) (Pv : Nat → St → Hp → Prop) (h0 : Pv 0 σ H) (hG : ∀ i σ H, i ≤ n → Pv i σ H → G H)
    (hs : ∀ i x σ H H', i < n → Pv i σ H → Y i H x H' → g x σ H' fun σ2 H2 => tb { D with nx := Pv (i + 1), ct := Pv (i + 1), bk := D.nx } σ2 H2) (hd : ∀ σ H, Pv n σ H → D.nx σ H) : tFor wi g tb D σ H := t _ (for_it w Pv h0 hG hs hd)
theorem lc_go {tt : TT} {vs : List Nat} {Q : VK} (t : Ti wi σ H J) (w : Walk J n G Y) (Pv : Addr → Nat → Hp → Prop) (h0 : ∀ L, H L = none → Pv L 0 (upd H L (.lst []))) (hG : ∀ L i H', i ≤ n → Pv L i H' → G H')
    (hs : ∀ L i x H1 H', H L = none → i < n → Pv L i H1 → Y i H1 x H' → g x (wipe σ vs) H' fun σ2 H2 => wipe σ2 vs = wipe σ vs ∧ tt σ2 H2 fun b H3 =>
      if b = true then te σ2 H3 fun y H4 => ∃ acc, H4 L = some (.lst acc) ∧ acc.length < sizeLine ∧ Pv L (i + 1) (upd H4 L (.lst (acc ++ [y]))) else Pv L (i + 1) H3)
    (hd : ∀ L H', H L = none → Pv L n H' → Q (.ref L) H') : tLc wi g tt te vs σ H Q :=
  t _ fun L hL => lc_it w (Pv L) (h0 L hL) (hG L) (fun i x H1 H' hi p y => hs L i x H1 H' hL hi p y) fun H' p => hd L H' hL p
theorem lock_go {t : TS} (e : H d = some (.dK kvs)) (k : ∀ od, t ⟨fun σ' H' => H' d = some (.frz od (.dK kvs)) ∧ D.nx σ' (upd H' d (.dK kvs)), fun v H' => H' d = some (.frz od (.dK kvs)) ∧ D.rt v (upd H' d (.dK kvs)), fun σ' H' => H' d = some (.frz od (.dK kvs)) ∧ D.bk σ' (upd H' d (.dK kvs)), fun σ' H' => H' d = some (.frz od (.dK kvs)) ∧ D.ct σ' (upd H' d (.dK kvs))⟩ σ (upd H d (.frz od (.dK kvs)))) : tLock t D σ H := ⟨d, _, e, trivial, k⟩
theorem lockE_go {Q : VK} (e : H d = some (.dK kvs)) (k : ∀ od, te σ (upd H d (.frz od (.dK kvs))) fun v H' => H' d = some (.frz od (.dK kvs)) ∧ Q v (upd H' d (.dK kvs))) : tLockE te σ H Q := ⟨d, _, e, trivial, k⟩
end
theorem go_make {σ : St} {H : Hp} {C : Addr} {sp : Sp} {E : XK} {ta : TA} {vs : List V} {Q : VK} (ha : Ta ta σ H vs) (k : ∀ x dx, H x = none → H dx = none → dx ≠ x → sp (.ref x :: vs) (upd (upd H dx (.own x)) x (.ins C dx [])) (fun v H2 => v = .non ∧ Q (.ref x) H2) E) : tMake C sp [] E ta σ H Q :=
  ha _ fun x dx h1 h2 h3 => by
    have q := k x dx h1 h2 h3
    show sp (.ref x :: (vs ++ [])) _ _ _
    rw [List.append_nil]
    exact q
theorem yes_go {σ : St} {H : Hp} {P R : Hp → Prop} (h : P H) : tYes σ H fun b H3 => if b = true then P H3 else R H3 := by
  show (if true = true then P H else R H)
  rw [if_pos rfl]
  exact h
theorem te_sl {σ σ' : St} {H : Hp} {te : TE} {Q : VK} (e : σ = σ') (h : te σ' H Q) : te σ H Q := by
  rw [e]
  exact h
theorem tt_sl {σ σ' : St} {H : Hp} {t : TT} {Q : Bool → Hp → Prop} (e : σ = σ') (h : t σ' H Q) : t σ H Q := by
  rw [e]
  exact h
theorem ts_sl {σ σ' : St} {H : Hp} {t : TS} {E : Ends} (e : σ = σ') (h : t E σ' H) : t E σ H := by
  rw [e]
  exact h
theorem te_chain {σ : St} {H : Hp} {ta tb tc : TE} {i j l : Int} {p q : Int → Int → Bool} (ha : Te ta σ H (.int i)) (hb : Te tb σ H (.int j)) (hc : Te tc σ H (.int l)) : Te (tChain (rI0 fun i j => .bl (p i j)) (rI0 fun i j => .bl (q i j)) ta tb tc) σ H (.bl (p i j && q j l)) := fun Q k =>
  ha _ (hb _ ⟨i, j, rfl, rfl, p i j, rfl, by
    cases h : p i j with
    | true => rw [if_pos rfl]; exact hc _ ⟨j, l, rfl, rfl, by rw [h] at k; exact k⟩
    | false => rw [if_neg (by simp)]; rw [h] at k; exact k⟩)
theorem pair_go {K : PySem.W.Frag} {σ : St} {H : Hp} {T : Addr} {x y : V} {i j : Nat} {P : St → Hp → Prop} (h : H T = some (.tup [x, y])) (k : P ((σ.set i (some x)).set j (some y)) H) : gTup K 2 (gCons (gName i) (gCons (gName j) gNil)) (.ref T) σ H P :=
  ⟨T, [x, y], rfl, SqT.of h, rfl, x, [y], rfl, y, [], rfl, rfl, k⟩
theorem atI_int {xs : List V} {i : Int} {v : V} (h0 : 0 ≤ i) (e : xs[i.toNat]? = some v) : atI xs i = some v := by
  obtain ⟨n, rfl⟩ := Int.eq_ofNat_of_zero_le h0
  exact atI_nat e
theorem Fr.wrNew {X : List Addr} {H H' : Hp} {a : Addr} {o : HO} (s : Fr X H H') (h : H a = none) : Fr X H (upd H' a o) := fun b u n e => by
  rw [upd_ne (ne_of_none e h)]
  exact s b u n e
theorem Fr.back {H H' : Hp} {d : Addr} {u : HO} (s : Fr [d] H H') (e : H d = some u) : Same H (upd H' d u) := fun b o q => by
  by_cases z : b = d
  · subst z
    rw [e] at q
    cases q
    exact upd_same
  · rw [upd_ne z]
    exact s b o (by simpa using z) q
theorem upd_none {H : Hp} {d L : Addr} {o : HO} (h : upd H d o L = none) : L ≠ d ∧ H L = none := by
  have n : L ≠ d := fun z => by rw [z, upd_same] at h; cases h
  rw [upd_ne n] at h
  exact ⟨n, h⟩
theorem name_go {σ σ' : St} {H : Hp} {i : Nat} {x : V} {P : St → Hp → Prop} (e : σ.set i (some x) = σ') (h : P σ' H) : gName i x σ H P := by
  subst e
  exact h
theorem isD_of {H : Hp} {p : Addr} {kvs : List (Key × V)} (h : H p = some (.dK kvs)) : IsD H p := by
  first | exact .inl ⟨_, .inl h⟩ | exact ⟨_, .inl h⟩ | exact .inl ⟨_, h⟩ | exact ⟨_, h⟩
theorem te_getD {σ : St} {H : Hp} {ta tb tc : TE} {p : Addr} {i x : Int} {l : Mp} (ha : Te ta σ H (.ref p)) (hb : Te tb σ H (.int i)) (hc : Te tc σ H (.int x)) (h : H p = some (.dK (kvI l))) : Te (tDGet2 ta tb tc) σ H (.int ((getI l i).getD x)) := by
  have t := te_dget2I ha hb hc h (isD_of h)
  rw [valV_kvI] at t
  cases e : getI l i with
  | none =>
    rw [e] at t
    exact t
  | some y =>
    rw [e] at t
    exact t
theorem st_lst1 {σ : St} {H : Hp} {te to ta : TE} {D : Ends} {p : Addr} {xs : List V} {v : V} {k : Int} {j : Nat} (h : Te te σ H v) (hp : Te to σ H (.ref p)) (hi : Te ta σ H (.int k)) (e : H p = some (.lst xs)) (hk : ixN xs.length k = some j) (r : D.nx σ (upd H p (.lst (xs.set j v)))) :
    tAsg te (gSub to ta rSetL) D σ H := h _ (hp _ (hi _ ⟨p, xs, k, j, rfl, rfl, e, hk, r⟩))
theorem ixN_nat {n : Nat} {k : Int} (h0 : 0 ≤ k) (h1 : k < n) : ixN n k = some k.toNat := by
  unfold ixN
  first | (rw [if_pos (by omega), if_pos (by omega)]) | (simp only []; split <;> first | rfl | omega | (split <;> first | rfl | omega)) | (split <;> first | rfl | omega)
theorem cut_to {xs : List V} (n : Nat) : cutV xs none (some (n : Int)) = xs.take n := by
  unfold cutV
  have e1 : HT.sIx xs.length xs.length (some (n : Int)) = min n xs.length := by
    unfold HT.sIx
    dsimp only
    rw [if_neg (by omega)]
    omega
  have e2 : HT.sIx xs.length 0 none = 0 := rfl
  rw [e1, e2]
  simp [List.take_eq_take_iff]
/-! what makes a new list -/
def Tn (te : TE) (σ : St) (H : Hp) (xs : List V) : Prop := ∀ Q : VK, (∀ q, H q = none → Q (.ref q) (upd H q (.lst xs))) → te σ H Q
theorem Tn.go {te : TE} {σ : St} {H : Hp} {xs : List V} {Q : VK} (h : Tn te σ H xs) (k : ∀ q, H q = none → Q (.ref q) (upd H q (.lst xs))) : te σ H Q := h Q k
theorem tn_take {K : PySem.W.Frag} {σ : St} {H : Hp} {to tn : TE} {a : Addr} {xs : List V} {n : Nat} (h : Te to σ H (.ref a)) (t : Te tn σ H (.int n)) (hs : SqL K H a xs) : Tn (tSl (rSlL K) to tNoPart (tPart tn)) σ H (xs.take n) := fun Q k =>
  h _ (t _ ⟨_, rfl, a, xs, rfl, hs, fun q hq => by
    rw [cut_to]
    exact k q hq⟩)
theorem tn_list {K : PySem.W.Frag} {σ : St} {H : Hp} {te : TE} {a : Addr} {xs : List V} (h : Te te σ H (.ref a)) (hs : SqL K H a xs ∨ SqT K H a xs) : Tn (tCB (fun xs H Q => ∃ p ys, xs = [.ref p] ∧ (SqL K H p ys ∨ SqT K H p ys) ∧ ∀ l, H l = none → Q (.ref l) (upd H l (.lst ys))) (tCons te tNil)) σ H xs := fun Q k =>
  h _ ⟨a, xs, rfl, hs, k⟩
theorem tn_lst {σ : St} {H : Hp} {ta : TA} {vs : List V} (h : Ta ta σ H vs) (l : vs.length ≤ sizeLine) : Tn (tLst ta) σ H vs := fun Q k => h _ ⟨l, k⟩
theorem for_new {K : PySem.W.Frag} {σ : St} {H : Hp} {te : TE} {g : TG} {tb : TS} {D : Ends} {xs : List V} (t : Tn te σ H xs) (k : ∀ q, H q = none → tFor (iList K (tC (.ref q))) g tb D σ (upd H q (.lst xs))) : tFor (iList K te) g tb D σ H := t _ fun q hq => k q hq
/-- x = a new list -/
theorem asg_new {σ : St} {H : Hp} {te : TE} {D : Ends} {rest : TS} {i : Nat} {xs : List V} (t : Tn te σ H xs) (k : ∀ q, H q = none → rest D (σ.set i (some (.ref q))) (upd H q (.lst xs))) : tSeq (tAsg te (gName i)) rest D σ H := t _ fun q hq => k q hq
theorem go_call {σ : St} {H : Hp} {sp : Sp} {E : XK} {ta : TA} {vs : List V} {Q : VK} (ha : Ta ta σ H vs) (k : sp vs H Q E) : tCall sp [] E ta σ H Q := ha _ (by
  show sp (vs ++ []) H Q E
  rw [List.append_nil]
  exact k)
/-! what a term asks, opened by hand -/
section
variable {σ : St} {H : Hp} {ta tb te : TE} {t : TA} {D : Ends} {rest : TS} {i : Nat} {r : R2} {Q : VK}
theorem asg_un (h : te σ H fun v H' => rest D (σ.set i (some v)) H') : tSeq (tAsg te (gName i)) rest D σ H := h
theorem asg1_un (h : te σ H fun v H' => D.nx (σ.set i (some v)) H') : tAsg te (gName i) D σ H := h
theorem ret_un (h : te σ H D.rt) : tRet te D σ H := h
theorem op_un (h : ta σ H fun x H1 => tb σ H1 fun y H2 => r x y H2 Q) : tOp r ta tb σ H Q := h
theorem cb_un {c : List V → Hp → VK → Prop} (h : t σ H fun vs H1 => c vs H1 Q) : tCB c t σ H Q := h
theorem cons_un {R : List V → Hp → Prop} (h : te σ H fun v H1 => t σ H1 fun vs H2 => R (v :: vs) H2) : tCons te t σ H R := h
theorem dput_un (h : te σ H fun v H1 => ta σ H1 fun x H2 => tb σ H2 fun y H3 => ∃ a H', x = .ref a ∧ DPut H3 a y v H' ∧ D.nx σ H') : sDPut ta tb te D σ H := h
theorem lst_un (h : te σ H fun v H1 => ta σ H1 fun x H2 => tb σ H2 fun y H3 => rSetL x y v H3 fun H4 => D.nx σ H4) : tAsg te (gSub ta tb rSetL) D σ H := h
theorem call_un {sp : Sp} {E : XK} (h : t σ H fun vs H1 => sp vs H1 Q E) : tCall sp [] E t σ H Q := by
  have e : (fun vs H1 => sp (vs ++ []) H1 Q E) = fun vs H1 => sp vs H1 Q E := funext fun vs => by rw [List.append_nil]
  show t σ H fun vs H1 => sp (vs ++ []) H1 Q E
  rw [e]
  exact h
end
theorem lstd_un {σ : St} {H : Hp} {ta : TA} {Q : VK} (h : ta σ H fun vs H1 => vs.length ≤ sizeLine ∧ ∀ p, H1 p = none → Q (.ref p) (upd H1 p (.lst vs))) : tLst ta σ H Q := h
theorem nil_un {σ : St} {H : Hp} {R : List V → Hp → Prop} (h : R [] H) : tNil σ H R := h
theorem if_and {σ : St} {H : Hp} {t u : TT} {tu tw : TS} {D : Ends} {b : Bool} (h : Tt t σ H b) (h1 : b = true → tIfS u tu tw D σ H) (h2 : b = false → tw D σ H) : tIfS (tAnd t u) tu tw D σ H := h _ (by
  cases b with
  | true => exact h1 rfl
  | false => exact h2 rfl)
theorem fld_un {K : PySem.W.Frag} {σ : St} {H : Hp} {to te : TE} {D : Ends} {f : Str} (h : te σ H fun v H1 => to σ H1 fun y H2 => ∃ p C dx fs, y = .ref p ∧ H2 p = some (.ins C dx fs) ∧ Cls K C ∧ NoAttr K C f ∧ fs.length < 1000 ∧ D.nx σ (upd H2 p (.ins C dx (putF f v fs)))) : sFld K to te f D σ H := h
theorem lc_un {K : PySem.W.Frag} {σ : St} {H : Hp} {te el : TE} {g : TG} {tt : TT} {vs : List Nat} {Q : VK} (h : te σ H fun x H1 => tLc (iList K (tC x)) g tt el vs σ H1 Q) : tLc (iList K te) g tt el vs σ H Q := h
theorem for_un {K : PySem.W.Frag} {σ : St} {H : Hp} {te : TE} {g : TG} {tb : TS} {D : Ends} (h : te σ H fun x H1 => tFor (iList K (tC x)) g tb D σ H1) : tFor (iList K te) g tb D σ H := h
theorem tup_un {σ : St} {H : Hp} {ta : TA} {Q : VK} (h : ta σ H fun vs H1 => vs.length ≤ sizeLine ∧ ∀ p, H1 p = none → Q (.ref p) (upd H1 p (.tup vs))) : tTup ta σ H Q := h
theorem te_neg {σ : St} {H : Hp} {te : TE} {i : Int} (h : Te te σ H (.int i)) : Te (tUn (fun x H Q => ∃ i, x = .int i ∧ Q (.int (-i)) H) te) σ H (.int (-i)) := fun Q q => h _ ⟨i, rfl, q⟩
theorem drop_un {σ : St} {H : Hp} {te : TE} {D : Ends} (h : te σ H fun _ H1 => D.nx σ H1) : tDrop te D σ H := h
theorem app_un {K : PySem.W.Frag} {σ : St} {H : Hp} {to te : TE} {Q : VK} {l : Addr} {zs : List V} (h : Te to σ H (.ref l)) (hl : SqL K H l zs) (k : te σ H fun y H1 => rAppend (.ref l) [y] H1 Q) : tBM K "list" rAppend to (tCons te tNil) σ H Q :=
  h _ ⟨.inl ⟨rfl, _, hl⟩, k⟩
theorem atI_neg1 {xs : List V} {v : V} {n : Nat} (l : xs.length = n + 1) (e : xs[n]? = some v) : atI xs (-1) = some v := by
  unfold atI ixN
  rw [if_neg (by decide), if_pos (by omega), Option.bind_some]
  have : (-1 + (xs.length : Int)).toNat = n := by omega
  rw [this]
  exact e
theorem pair_goT {K : PySem.W.Frag} {σ : St} {H : Hp} {T : Addr} {x y : V} {i j : Nat} {P : St → Hp → Prop} (h : SqT K H T [x, y]) (k : P ((σ.set i (some x)).set j (some y)) H) : gTup K 2 (gCons (gName i) (gCons (gName j) gNil)) (.ref T) σ H P :=
  ⟨T, [x, y], rfl, h, rfl, x, [y], rfl, y, [], rfl, rfl, k⟩
theorem b_un {σ : St} {H : Hp} {te : TE} {Q : Bool → Hp → Prop} (h : te σ H fun x H1 => ∃ c, x = .bl c ∧ Q c H1) : tB te σ H Q := h
theorem iff_un {σ : St} {H : Hp} {t : TT} {tu tw : TS} {D : Ends} (h : t σ H fun b H1 => if b = true then tu D σ H1 else tw D σ H1) : tIfS t tu tw D σ H := h
theorem and_un {σ : St} {H : Hp} {t u : TT} {Q : Bool → Hp → Prop} {b : Bool} (h : Tt t σ H b) (h1 : b = true → u σ H Q) (h2 : b = false → Q false H) : tAnd t u σ H Q := h _ (by
  cases b with
  | true => exact h1 rfl
  | false => exact h2 rfl)
theorem meth_un {C : Addr} {m : Str} {sp : Sp} {E : XK} {σ : St} {H : Hp} {to : TE} {t : TA} {Q : VK} (h : to σ H fun x H1 => ∃ a dx fs, x = .ref a ∧ H1 a = some (.ins C dx fs) ∧ fs.lookup m = none ∧ t σ H1 fun vs H2 => sp (x :: vs) H2 Q E) : tMeth C m sp [] E to t σ H Q := by
  have e : (fun x vs H2 => sp (x :: (vs ++ [])) H2 Q E) = fun x vs H2 => sp (x :: vs) H2 Q E := by
    funext x vs H2
    rw [List.append_nil]
  show to σ H fun x H1 => ∃ a dx fs, x = .ref a ∧ H1 a = some (.ins C dx fs) ∧ fs.lookup m = none ∧ t σ H1 ((fun x vs H2 => sp (x :: (vs ++ [])) H2 Q E) x)
  rw [e]
  exact h
theorem cut_from {xs : List V} (n : Nat) : cutV xs (some (n : Int)) none = xs.drop n := by
  unfold cutV
  have e1 : HT.sIx xs.length 0 (some (n : Int)) = min n xs.length := by
    unfold HT.sIx
    dsimp only
    rw [if_neg (by omega)]
    omega
  have e2 : HT.sIx xs.length xs.length none = xs.length := rfl
  rw [e1, e2]
  rcases Nat.le_total n xs.length with h | h
  · rw [Nat.min_eq_left h]
    exact List.take_of_length_le (by rw [List.length_drop]; omega)
  · rw [Nat.min_eq_right h, List.drop_eq_nil_of_le (Nat.le_refl _), List.drop_eq_nil_of_le h, List.take_nil]
theorem tn_drop {K : PySem.W.Frag} {σ : St} {H : Hp} {to tn : TE} {a : Addr} {xs : List V} {n : Nat} (h : Te to σ H (.ref a)) (t : Te tn σ H (.int n)) (hs : SqL K H a xs) : Tn (tSl (rSlL K) to (tPart tn) tNoPart) σ H (xs.drop n) := fun Q k =>
  h _ (t _ ⟨_, rfl, a, xs, rfl, hs, fun q hq => by
    rw [cut_from]
    exact k q hq⟩)
end YG

namespace K01
open PySem L2 YF YG
/-! ### the pieces of a line -/
def TokAt (H : Hp) (t : Tk) (v : V) : Prop := ∃ a, v = .ref a ∧ H a = some (.tup [.str t.1, .str t.2.1, .int t.2.2])
theorem TokAt.same {H H' : Hp} {t : Tk} {v : V} (h : TokAt H t v) (s : Same H H') : TokAt H' t v := by
  obtain ⟨a, e1, e2⟩ := h
  exact ⟨a, e1, s _ _ e2⟩
theorem scan_inv {a : Nat} {l : Cs} {ts : List Tk} {b : Option (Int × Str)} (h : Scan a l ts b) : (l = [] ∧ ts = [] ∧ b = none) ∨ (∃ l', l = 32 :: l' ∧ Scan (a + 1) l' ts b) ∨
    (l.head? ≠ some 32 ∧ ∃ k t ts', tok1 l = some (.tok k t) ∧ 0 < t.length ∧ t.length ≤ l.length ∧ ts = (k, t, (a : Int) + 1) :: ts' ∧ Scan (a + t.length) (l.drop t.length) ts' b) ∨
    (l.head? ≠ some 32 ∧ ∃ r, tok1 l = some (.bad r) ∧ ts = [] ∧ b = some ((a : Int) + 1, r)) := by
  cases h with
  | nil => exact .inl ⟨rfl, rfl, rfl⟩
  | sp h => exact .inr (.inl ⟨_, rfl, h⟩)
  | tok h0 h1 h2 h3 h => exact .inr (.inr (.inl ⟨h0, _, _, _, h1, h2, h3, rfl, h⟩))
  | bad h0 h1 => exact .inr (.inr (.inr ⟨h0, _, h1, rfl, rfl⟩))
theorem paired_app {α β : Type} {R : α → β → Prop} : ∀ {xs : List α} {ys : List β} {us : List α} {vs : List β}, Paired R xs ys → Paired R us vs → Paired R (xs ++ us) (ys ++ vs)
  | _, _, _, _, .nil, h => h
  | _, _, _, _, .cons a r, h => .cons a (paired_app r h)
theorem paired_mapP {α β : Type} {R S : α → β → Prop} : ∀ {xs : List α} {ys : List β}, Paired R xs ys → (∀ x y, R x y → S x y) → Paired S xs ys
  | _, _, .nil, _ => .nil
  | _, _, .cons a r, h => .cons (h _ _ a) (paired_mapP r h)
theorem allS_un {P : Addr} {pb : Nat → Bool} {te : TE} {σ : L2.St} {H : Hp} {Q : VK} (h : te σ H fun v H1 => ∃ a : Str, v = .str a ∧ GxR.TabG H1 P ∧ ∀ H2, GxR.Tabbed P H1 H2 → Q (.bl (a.cps.toList.all pb)) H2) : GxR.tAllS P pb te σ H Q := h
theorem go_appC {K : PySem.W.Frag} {σ : L2.St} {H : Hp} {to : TE} {ta : TA} {D : Ends} {p : Addr} {xs : List V} (hp : Te to σ H (.ref p)) (e : H p = some (.lst xs)) (k : ta σ H fun vs H2 => rAppend (.ref p) vs H2 fun _ H3 => D.nx σ H3) : tDrop (tBM K "list" rAppend to ta) D σ H := hp _ ⟨.inl ⟨rfl, _, SqL.of e⟩, k⟩
def spTokens (K : PySem.W.Frag) : Sp := fun vs H Q _ => ∃ (z : Str) (n : Int) (ts : List Tk), vs = [.str z, .int n] ∧ z.length ≤ 640 ∧ Scan 0 (cs z) ts none ∧
  ∀ (p : Addr) (us : List V) (H' : Hp), Same H H' → H p = none → H' p = some (.lst us) → Paired (TokAt H') ts us → Q (.ref p) H'
section
variable {P : Program} {w : World} {K : PySem.W.Frag} {mg : Str → Option Value} {base : Heap} {A : Adr}
theorem ok_tokens (T : Txt K mg A) : FnOk P w K mg base CX0 5 A.a_tokens A.d_tokens ["line", "number"] (spTokens K) := by
  refine T.F_tokens.ok (k := 4) sc_tokens (fun vs H Q E ⟨_, _, _, e, _⟩ => by rw [e]; rfl) (fun cdv A' outer s H vs Q E hr h => ?_)
  obtain ⟨z, n, ts, rfl, hz, hS, k⟩ := h
  refine ⟨_, pss_cons (ps_set (i := 2) sc_tokens.nd rfl (Or.inl rfl) (pe_lst pa_nil))
  (pss_cons (ps_set (i := 3) sc_tokens.nd rfl (Or.inl rfl) (pe_int))
  (pss_cons (ps_while PassesOwn.never (pt_cmpR op_lt (pv 3) (pe_callB call_len_str (by rfl) T.n_len (by decide +kernel) (pa_cons (pv 0) pa_nil)) (nomark _))
  (pss_one (ps_if (pt_cmpR op_eq (pe_ix ix_str (pv 0) (pv 3) (fun _ _ => rfl)) (pe_str) (nomark _))
  (pss_one (ps_aug (i := 3) sc_tokens.nd rfl (Or.inl rfl) (pe_int) ip_add))
  (pss_cons (ps_asg (pe_call (ok_token T) (hr.mono (by decide)) rfl T.g__token T.F__token.kp T.b__token .nil pass0 (pa_cons (pv 0) (pa_cons (pv 3) (pa_cons (pv 1) pa_nil)))) (pg_tup (by rfl) (pgs_cons (pg_name (i := 4) sc_tokens.nd rfl (Or.inl rfl)) (pgs_cons (pg_name (i := 5) sc_tokens.nd rfl (Or.inl rfl)) pgs_nil))))
  (pss_cons (ps_expr (pe_bm PySem.F.plainAttrs_list PySem.F.slot_list_append PySem.F.type_list_append mt_append (pv 2) (pa_cons (pe_tup (pa_cons (pv 4) (pa_cons (pv 5) (pa_cons (pe_op op_add (pv 3) (pe_int)) pa_nil)))) pa_nil)))
  (pss_one (ps_aug (i := 3) sc_tokens.nd rfl (Or.inl rfl) (pe_callB call_len_str (by rfl) T.n_len (by decide +kernel) (pa_cons (pv 5) pa_nil)) ip_add)))))))
  (pss_one (ps_ret (pv 2))))), ?_⟩
  have bd : z.length ≤ sizeLine := by rw [sizeLine_eq]; omega
  refine asg_un (lstd_un (nil_un ⟨Nat.zero_le _, fun p hp => ?_⟩))
  try dsimp only
  refine set_sl (σ' := [some (.str z), some (.int n), some (.ref p), none, none, none]) rfl ?_
  refine asg_te te_c ?_
  refine set_sl (σ' := [some (.str z), some (.int n), some (.ref p), some (.int 0), none, none]) rfl ?_
  refine ⟨fun m σ H' => ∃ (a : Nat) (dn rest : List Tk) (us : List V) (v4 v5 : Option V), σ = [some (.str z), some (.int n), some (.ref p), some (.int a), v4, v5] ∧ m = z.length - a ∧ a ≤ z.length ∧ dn.length ≤ a ∧ dn ++ rest = ts ∧ Scan a ((cs z).drop a) rest none ∧ Same H H' ∧ H' p = some (.lst us) ∧ Paired (TokAt H') dn us,
    ⟨_, 0, [], ts, [], none, none, rfl, rfl, Nat.zero_le _, Nat.le_refl _, rfl, hS, Same.upd hp, upd_same, .nil⟩, ?_⟩
  rintro m σ H' ⟨a, dn, rest, us, v4, v5, rfl, rfl, l1, l2, e1, S, s1, ep, pr⟩
  refine ⟨_, rfl, _, rfl, z, rfl, bd, _, _, rfl, rfl, _, rfl, ite3 (fun hl => ?_) fun hl => ?_⟩
  · have ha : a < z.length := by have := of_decide_eq_true hl; omega
    have hc : a < (cs z).length := by rw [← len_cs]; exact ha
    have dr : (cs z).drop a = (cs z)[a] :: (cs z).drop (a + 1) := List.drop_eq_getElem_cons hc
    have hat : atI z.cps.toList (a : Int) = some (cs z)[a] := atI_nat (List.getElem?_eq_getElem hc)
    refine ⟨fun σ H1 => ∃ (a' : Nat) (dn rest : List Tk) (us : List V) (v4 v5 : Option V), σ = [some (.str z), some (.int n), some (.ref p), some (.int a'), v4, v5] ∧ a < a' ∧ a' ≤ z.length ∧ dn.length ≤ a' ∧ dn ++ rest = ts ∧ Scan a' ((cs z).drop a') rest none ∧ Same H H1 ∧ H1 p = some (.lst us) ∧ Paired (TokAt H1) dn us, ?_, ?_⟩
    · rintro σ' H1 ⟨a', dn', rest', us', u4, u5, rfl, q1, q2, q3, q4, q5, q6⟩
      exact ⟨z.length - a', by omega, a', dn', rest', us', u4, u5, rfl, rfl, q2, q3, q4, q5, q6⟩
    · refine if_go (tt_test (te_eq (te_ixs (te_var rfl) (te_var rfl) bd hat) te_c rfl)) (fun h => ?_) fun h => ?_
      · have h32 : (cs z)[a] = 32 := (one_eq (by decide +kernel)).mp (of_decide_eq_true h)
        have S2 : Scan (a + 1) ((cs z).drop (a + 1)) rest none := by
          rcases scan_inv S with ⟨q, _⟩ | ⟨l', q, q2⟩ | ⟨q, _⟩ | ⟨q, _⟩
          · rw [dr] at q; cases q
          · rw [dr] at q
            rw [(List.cons.inj q).2]
            exact q2
          · rw [dr, h32] at q; exact absurd rfl q
          · rw [dr, h32] at q; exact absurd rfl q
        exact ⟨_, rfl, _, _, rfl, rfl, a + 1, dn, rest, us, v4, v5, rfl, by omega, by omega, by omega, e1, S2, s1, ep, pr⟩
      · have h32 : (cs z)[a] ≠ 32 := fun q => by
          have := of_decide_eq_false h
          exact this ((one_eq (by decide +kernel)).mpr q)
        have hl1 : us.length = dn.length := paired_len pr
        rcases scan_inv S with ⟨q, _⟩ | ⟨l', q, _⟩ | ⟨_, k', t, ts', q1, q2, q3, q4, q5⟩ | ⟨_, r, q1, q2, q3⟩
        · rw [dr] at q; cases q
        · rw [dr] at q
          exact absurd (List.cons.inj q).1 h32
        · subst q4
          have lt : a + t.length ≤ z.length := by
            rw [List.length_drop, ← len_cs] at q3
            omega
          refine ⟨_, rfl, _, rfl, _, rfl, z, a, n, k', t, rfl, ha, hz, q1, fun p1 hp1 => ?_⟩
          refine ⟨p1, _, rfl, SqT.of upd_same, rfl, ?_⟩
          refine ⟨_, _, rfl, _, _, rfl, rfl, ?_⟩
          refine set_sl (σ' := [some (.str z), some (.int n), some (.ref p), some (.int a), some (.str k'), some (.str t)]) rfl ?_
          have sp1 : Same H' (upd H' p1 (.tup [.str k', .str t])) := Same.upd hp1
          generalize upd H' p1 (HO.tup [V.str k', V.str t]) = H1 at sp1 ⊢
          dsimp only
          have ep1 := sp1 _ _ ep
          refine sq_go (go_appC (te_var rfl) ep1 (cons_un (tup_un ((ta_cons (te_var rfl) (ta_cons (te_var rfl) (ta_cons (te_i0 (te_var rfl) te_c) ta_nil))) _ ⟨show 3 ≤ sizeLine by decide, fun u hu => nil_un ?_⟩))))
          have su : Same H1 (upd H1 u (.tup [.str k', .str t, .int ((a : Int) + 1)])) := Same.upd hu
          have eu : (upd H1 u (.tup [.str k', .str t, .int ((a : Int) + 1)])) u = some (.tup [.str k', .str t, .int ((a : Int) + 1)]) := upd_same
          generalize upd H1 u (HO.tup [V.str k', V.str t, V.int ((a : Int) + 1)]) = H2 at su eu ⊢
          have ep2 := su _ _ ep1
          refine ⟨p, us, .ref u, rfl, rfl, ep2, by rw [hl1, sizeLine_eq]; omega, ?_⟩
          have s2 : Same H H2 := (s1.trans sp1).trans su
          have off : ∀ {t' : Tk} {v : V}, TokAt H2 t' v → TokAt (upd H2 p (.lst (us ++ [.ref u]))) t' v := fun {t' v} ⟨b, e1, e2⟩ => ⟨b, e1, by
            rw [upd_ne (ne_of e2 ep2 (by intro q; cases q))]
            exact e2⟩
          refine ⟨_, rfl, _, rfl, t, rfl, by rw [sizeLine_eq]; omega, _, _, rfl, rfl, a + t.length, dn ++ [(k', t, (a : Int) + 1)], ts', us ++ [.ref u], _, _, rfl, by omega, lt, by rw [List.length_append]; simp; omega, by rw [List.append_assoc]; exact e1, ?_, fun b o e => ?_, upd_same, paired_app (paired_mapP pr fun _ _ h => off ((h.same sp1).same su)) (.cons (off ⟨u, rfl, eu⟩) .nil)⟩
          · rw [List.drop_drop] at q5
            exact q5
          · rw [upd_ne (ne_of_none e hp)]
            exact s2 _ _ e
        · cases q3
  · have he : a = z.length := by
      have q : ¬ ((a : Int) < z.length) := fun q => by rw [decide_eq_true q] at hl; cases hl
      omega
    have hnil : (cs z).drop a = [] := by rw [he, len_cs, List.drop_length]
    rw [hnil] at S
    rcases scan_inv S with ⟨_, q1, q2⟩ | ⟨l', q, _⟩ | ⟨_, k', t, ts', q1, _⟩ | ⟨_, r, q1, _⟩
    · subst q1
      rw [List.append_nil] at e1
      subst e1
      exact ⟨_, rfl, k p us H' s1 hp ep pr⟩
    · cases q
    · cases q1
    · cases q1
/-! ### names -/
def spNm (A : Adr) : Sp := fun vs H Q _ => ∃ z : Str, vs = [.str z] ∧ NameOk z ∧ GxR.TabG H A.t_is_name ∧ ∀ H', GxR.Tabbed A.t_is_name H H' → Q (.bl true) H'
def gscope : Scope := match defBody s_is_name with
  | [_, .Return (some (.Call _ [.GeneratorExp _ _ sc _] _ _)) _] => sc
  | _ => defScope s_is_name
theorem ok_is_name (TB : GxR.TabB base mg A.c_is_name A.t_is_name) (T : Txt K mg A) : FnOk P w K mg base CX0 3 A.a_is_name A.d_is_name ["word"] (spNm A) := by
  obtain ⟨oc, od, dV, kV, doc, pm0, an, ct, osl, ed, lk⟩ := T.L_is_name
  rw [ed] at lk ⊢
  refine fn_of (k := 2) lk T.C_is_name sc_is_name (fun vs H Q E ⟨_, e, _⟩ => by rw [e]; rfl) fun A' outer s0 H vs Q E hr h => ?_
  obtain ⟨z, rfl, ⟨n1, n2, n3, n4⟩, tb, k⟩ := h
  refine ⟨_, pss_cons (ps_if (PW.pt (pw_or (pt_cmpR op_lt (pe_callB call_len_str (by rfl) T.n_len (by decide +kernel) (pa_cons (pv 0) pa_nil)) (pe_int) (nomark _)) (pw_or (pt_cmpR op_gt (pe_callB call_len_str (by rfl) T.n_len (by decide +kernel) (pa_cons (pv 0) pa_nil)) (pe_glob (v := .int 12) rfl T.g_LONGEST ⟨_, rfl⟩) (nomark _)) (pw_or1 (pt_cmpR op_in_seq (pv 0) (pe_glob (v := .ref A.a_KEY_WORDS) rfl T.g_KEY_WORDS rfl) (by rfl))))))
  (pss_one (ps_ret (pe_bl)))
  (pss_nil))
  (pss_one (ps_ret (pe_allGl hr (by rfl) T.n_all (by decide +kernel) TB rfl ⟨rfl, rfl, by decide +kernel, rfl, rfl, fun y hy e => absurd e ((by decide +kernel : ∀ y ∈ gscope.names, y.2 ≠ NameKind.free) y hy)⟩ (pv 0) (elt_inG rfl rfl rfl T.g_LETTERS) (fun _ => rfl)))), ?_⟩
  have bd : z.length ≤ sizeLine := by rw [sizeLine_eq]; omega
  refine if_seq (tt_or (tt_test (te_i0 (te_lens (te_var rfl) bd) te_c)) fun _ => tt_or (tt_test (te_i0 (te_lens (te_var rfl) bd) te_c)) fun _ => tt_test (te_inT (zs := keysL) (te_var rfl) te_c (.inr (T.z_KEY_WORDS H)))) (fun h => ?_) fun _ => ?_
  · simp only [Bool.or_eq_true, decide_eq_true_eq] at h
    rcases h with h | h | h
    · omega
    · omega
    · exact absurd h n3
  · refine ret_un (allS_un (Te.go (te_var rfl) ⟨z, rfl, tb, fun H2 t2 => ?_⟩))
    have e : (z.cps.toList.all fun c => decide (c ∈ (Str.ofString "abcdefghijklmnopqrstuvwxyz").cps.toList)) = true := by
      rw [List.all_eq_true]
      exact fun c hc => n4 c hc
    rw [e]
    exact k H2 t2
end
end K01

namespace K01
open PySem L2 YF YG
/-! ### a line that is read -/
structure PlL where
  self : Addr
  dx : Addr
  pf : Addr
  pc : Addr
  pv : Addr
  num : Int
  beh : Int
  ib : Bool
def fldL (p : PlL) (pl mo : Nat) : List (Str × V) := [("number", .int p.num), ("found", .ref p.pf), ("behind", .int p.beh), ("place", .int (pl : Int)), ("many_open", .int (mo : Int)), ("cells", .ref p.pc), ("variables", .ref p.pv), ("in_block", .bl p.ib)]
def tx (ts : List Tk) (i : Nat) : Str := match ts[i]? with
  | some t => t.2.1
  | none => ""
def isN (ts : List Tk) (i : Nat) : Bool := match ts[i]? with
  | some t => decide (t.1 = "number")
  | none => false
abbrev Kv := List (Key × V)
structure LnAt (A : Adr) (H : Hp) (p : PlL) (ts : List Tk) (cs vs : List Str) (pl mo : Nat) : Prop where
  ob : H p.self = some (.ins A.a_Line p.dx (fldL p pl mo))
  fd : ∃ us, H p.pf = some (.lst us) ∧ Paired (TokAt H) ts us
  hc : ∃ kv, H p.pc = some (.dK kv) ∧ kv.map (·.1) = cs.map Sum.inr
  hv : ∃ kv, H p.pv = some (.dK kv) ∧ kv.map (·.1) = vs.map Sum.inr
  tb : GxR.TabG H A.t_is_name
  le : ts.length ≤ 1000
def Kept (C : List Addr) (H H' : Hp) : Prop := ∀ b o, b ∉ C → H b = some o → H' b = some o
theorem Kept.refl {C : List Addr} {H : Hp} : Kept C H H := fun _ _ _ e => e
theorem Kept.of {C : List Addr} {H H' : Hp} (s : Same H H') : Kept C H H' := fun b o _ e => s b o e
theorem Kept.trans {C : List Addr} {H H' H'' : Hp} (k : Kept C H H') (k' : Kept C H' H'') : Kept C H H'' := fun b o hb e => k' b o hb (k b o hb e)
theorem Kept.upd {C : List Addr} {H H' : Hp} {a : Addr} {o : HO} (k : Kept C H H') (h : a ∈ C) : Kept C H (upd H' a o) := fun b u hb e => by
  rw [upd_ne fun z => hb (by rw [z]; exact h)]
  exact k b u hb e
theorem TabG.same {H H' : Hp} {P : Addr} (h : GxR.TabG H P) (s : Same H H') : GxR.TabG H' P := by
  obtain ⟨ps, e, t⟩ := h
  exact ⟨ps, s _ _ e, t⟩
theorem TabG.off {H : Hp} {P a : Addr} {o : HO} (h : GxR.TabG H P) (n : P ≠ a) : GxR.TabG (upd H a o) P := by
  obtain ⟨ps, e, t⟩ := h
  exact ⟨ps, by rw [upd_ne n]; exact e, t⟩
section
variable {A : Adr} {H H' : Hp} {p : PlL} {ts : List Tk} {cs vs : List Str} {pl mo : Nat}
theorem LnAt.same (h : LnAt A H p ts cs vs pl mo) (s : Same H H') : LnAt A H' p ts cs vs pl mo := by
  obtain ⟨us, e1, e2⟩ := h.fd
  obtain ⟨kv, e3, e4⟩ := h.hc
  obtain ⟨kw, e5, e6⟩ := h.hv
  exact ⟨s _ _ h.ob, ⟨us, s _ _ e1, paired_mapP e2 fun _ _ t => t.same s⟩, ⟨kv, s _ _ e3, e4⟩, ⟨kw, s _ _ e5, e6⟩, TabG.same h.tb s, h.le⟩
/-- the line goes on -/
theorem LnAt.wr (h : LnAt A H p ts cs vs pl mo) (pl' mo' : Nat) : LnAt A (upd H p.self (.ins A.a_Line p.dx (fldL p pl' mo'))) p ts cs vs pl' mo' := by
  obtain ⟨us, e1, e2⟩ := h.fd
  obtain ⟨kv, e3, e4⟩ := h.hc
  obtain ⟨kw, e5, e6⟩ := h.hv
  obtain ⟨ps, e7, e8⟩ := h.tb
  have off : ∀ {b : Addr} {o : HO}, H b = some o → (∀ C d f, o ≠ .ins C d f) → b ≠ p.self := fun {b o} e n z => by
    rw [z, h.ob] at e
    exact n _ _ _ (Option.some.inj e).symm
  refine ⟨upd_same, ⟨us, by rw [upd_ne (off e1 (by intro _ _ _ z; cases z))]; exact e1, paired_mapP e2 fun t v ⟨b, f1, f2⟩ => ⟨b, f1, by rw [upd_ne (off f2 (by intro _ _ _ z; cases z))]; exact f2⟩⟩, ⟨kv, by rw [upd_ne (off e3 (by intro _ _ _ z; cases z))]; exact e3, e4⟩, ⟨kw, by rw [upd_ne (off e5 (by intro _ _ _ z; cases z))]; exact e5, e6⟩, ⟨ps, by rw [upd_ne (off e7 (by intro _ _ _ z; cases z))]; exact e7, e8⟩, h.le⟩
/-- the table of is_name has grown -/
theorem LnAt.tab (h : LnAt A H p ts cs vs pl mo) (t : GxR.Tabbed A.t_is_name H H') : LnAt A H' p ts cs vs pl mo := by
  obtain ⟨us, e1, e2⟩ := h.fd
  obtain ⟨kv, e3, e4⟩ := h.hc
  obtain ⟨kw, e5, e6⟩ := h.hv
  obtain ⟨ps, e7, e8⟩ := h.tb
  obtain ⟨t1, t2⟩ := t
  have up : ∀ {b : Addr} {o : HO}, H b = some o → (∀ qs, o ≠ .tbl qs) → H' b = some o := fun {b o} e n => by
    rw [t2 b fun z => by rw [z, e7] at e; exact n _ (Option.some.inj e).symm]
    exact e
  exact ⟨up h.ob (by intro _ z; cases z), ⟨us, up e1 (by intro _ z; cases z), paired_mapP e2 fun t v ⟨b, f1, f2⟩ => ⟨b, f1, up f2 (by intro _ z; cases z)⟩⟩, ⟨kv, up e3 (by intro _ z; cases z), e4⟩, ⟨kw, up e5 (by intro _ z; cases z), e6⟩, t1, h.le⟩
theorem LnAt.tok (h : LnAt A H p ts cs vs pl mo) {i : Nat} {t : Tk} (e : ts[i]? = some t) : ∃ us a, H p.pf = some (.lst us) ∧ us[i]? = some (.ref a) ∧ H a = some (.tup [.str t.1, .str t.2.1, .int t.2.2]) := by
  obtain ⟨us, e1, e2⟩ := h.fd
  have : ∀ {xs : List Tk} {ys : List V} {i : Nat}, Paired (TokAt H) xs ys → xs[i]? = some t → ∃ a, ys[i]? = some (.ref a) ∧ H a = some (.tup [.str t.1, .str t.2.1, .int t.2.2]) := by
    intro xs ys i hp
    induction hp generalizing i with
    | nil => intro q; cases q
    | cons a r ih =>
      intro q
      cases i with
      | zero =>
        cases q
        obtain ⟨b, f1, f2⟩ := a
        exact ⟨b, by rw [f1]; rfl, f2⟩
      | succ i => exact ih q
  obtain ⟨a, f1, f2⟩ := this e2 e
  exact ⟨us, a, e1, f1, f2⟩
end
theorem meth_go {C : Addr} {m : Str} {sp : Sp} {E : XK} {to : TE} {t : TA} {σ : L2.St} {H : Hp} {p dx : Addr} {fs : List (Str × V)} {vs dvs : List V} {Q : VK} (ha : Te to σ H (.ref p)) (h : H p = some (.ins C dx fs)) (l : fs.lookup m = none) (hb : Ta t σ H vs) (k : sp (.ref p :: (vs ++ dvs)) H Q E) : tMeth C m sp dvs E to t σ H Q := ha _ ⟨p, dx, fs, rfl, h, l, hb _ k⟩
def spOver (A : Adr) : Sp := fun ws H Q _ => ∃ (p : PlL) (ts : List Tk) (cs vs : List Str) (pl mo : Nat), ws = [.ref p.self] ∧ LnAt A H p ts cs vs pl mo ∧ Q (.bl (decide (pl = ts.length))) H
def spText (A : Adr) : Sp := fun ws H Q _ => ∃ (p : PlL) (ts : List Tk) (cs vs : List Str) (pl mo k : Nat), ws = [.ref p.self, .int (k : Int)] ∧ LnAt A H p ts cs vs pl mo ∧ Q (.str (tx ts (pl + k))) H
def spIsN (A : Adr) : Sp := fun ws H Q _ => ∃ (p : PlL) (ts : List Tk) (cs vs : List Str) (pl mo k : Nat), ws = [.ref p.self, .int (k : Int)] ∧ LnAt A H p ts cs vs pl mo ∧ Q (.bl (isN ts (pl + k))) H
def spSkip (A : Adr) : Sp := fun ws H Q _ => ∃ (p : PlL) (ts : List Tk) (cs vs : List Str) (pl mo : Nat), ws = [.ref p.self] ∧ LnAt A H p ts cs vs pl mo ∧ Q .non (upd H p.self (.ins A.a_Line p.dx (fldL p (pl + 1) mo)))
section
variable {P : Program} {w : World} {K : PySem.W.Frag} {mg : Str → Option Value} {base : Heap} {A : Adr}
theorem bd_Line_text_0 (T : Txt K mg A) : ∃ ds, Vals [.int 0] ds ∧ Binds K A.d_Line_text ["self", "ahead"] ds := T.K_Line_text.binds1 1 0 (by simp) rfl fun Tt kV doc pm an cdv ct us its l1 l2 => by
  match us, its, l1, l2 with
  | [u], [i], _, _ => exact ⟨_, rfl, rfl⟩
theorem bd_Line_text_1 (T : Txt K mg A) : ∃ ds, Vals [] ds ∧ Binds K A.d_Line_text ["self", "ahead"] ds := T.K_Line_text.binds1 2 1 (by simp) rfl fun Tt kV doc pm an cdv ct us its l1 l2 => by
  match us, its, l1, l2 with
  | [u, v], [i], _, _ => exact ⟨_, rfl, rfl⟩
theorem bd_Line_is_number_0 (T : Txt K mg A) : ∃ ds, Vals [.int 0] ds ∧ Binds K A.d_Line_is_number ["self", "ahead"] ds := T.K_Line_is_number.binds1 1 0 (by simp) rfl fun Tt kV doc pm an cdv ct us its l1 l2 => by
  match us, its, l1, l2 with
  | [u], [i], _, _ => exact ⟨_, rfl, rfl⟩
theorem bd_Line_is_number_1 (T : Txt K mg A) : ∃ ds, Vals [] ds ∧ Binds K A.d_Line_is_number ["self", "ahead"] ds := T.K_Line_is_number.binds1 2 1 (by simp) rfl fun Tt kV doc pm an cdv ct us its l1 l2 => by
  match us, its, l1, l2 with
  | [u, v], [i], _, _ => exact ⟨_, rfl, rfl⟩
theorem ok_Line_is_over (T : Txt K mg A) : FnOk P w K mg base CX0 1 A.a_Line_is_over A.d_Line_is_over ["self"] (spOver A) := by
  refine T.F_Line_is_over.ok sc_Line_is_over (fun ws H Q E ⟨_, _, _, _, _, _, e, _⟩ => by rw [e]; rfl) (fun cdv A' outer s H ws Q E hr h => ?_)
  obtain ⟨p, ts, cs, vs, pl, mo, rfl, L, k⟩ := h
  refine ⟨_, pss_one (ps_ret (pe_cmpR op_eq (pe_fld (pv 0) rfl) (pe_callB call_len_seq (by rfl) T.n_len (by decide +kernel) (pa_cons (pe_fld (pv 0) rfl) pa_nil)) (nomark _))), ?_⟩
  obtain ⟨us, e1, e2⟩ := L.fd
  have l1 : us.length = ts.length := paired_len e2
  refine ret_te (te_eq (te_fld (te_var rfl) L.ob T.cl_Line T.no_Line_place rfl) (te_len (te_fld (te_var rfl) L.ob T.cl_Line T.no_Line_found rfl) (.inl (SqL.of e1))) rfl) ?_
  have : decide (V.int (pl : Int) = V.int (us.length : Int)) = decide (pl = ts.length) := by
    rw [l1]
    by_cases h : pl = ts.length
    · rw [h]; simp
    · rw [decide_eq_false h, decide_eq_false]
      intro q
      have := V.int.inj q
      omega
  rw [this]
  exact k
theorem ok_Line_text (T : Txt K mg A) : FnOk P w K mg base CX0 1 A.a_Line_text A.d_Line_text ["self", "ahead"] (spText A) := by
  refine T.K_Line_text.ok sc_Line_text (fun ws H Q E ⟨_, _, _, _, _, _, _, e, _⟩ => by rw [e]; rfl) (fun cdv A' outer s H ws Q E hr h => ?_)
  obtain ⟨p, ts, cs, vs, pl, mo, j, rfl, L, k⟩ := h
  refine ⟨_, pss_cons (ps_if (pt_cmpR op_lt (pe_op op_add (pe_fld (pv 0) rfl) (pv 1)) (pe_callB call_len_seq (by rfl) T.n_len (by decide +kernel) (pa_cons (pe_fld (pv 0) rfl) pa_nil)) (nomark _))
  (pss_one (ps_ret (pe_ix ix_tup (pe_ix ix_list (pe_fld (pv 0) rfl) (pe_op op_add (pe_fld (pv 0) rfl) (pv 1)) (fun _ _ => rfl)) (pe_int) (fun _ _ => rfl))))
  (pss_nil))
  (pss_one (ps_ret (pe_str))), ?_⟩
  obtain ⟨us, e1, e2⟩ := L.fd
  have l1 : us.length = ts.length := paired_len e2
  have tp : Te (tOp (rI0 fun i j => V.int (i + j)) (tFld K (tVar 0) "place") (tVar 1)) (L2.start ["self", "ahead"] [V.ref p.self, V.int (j : Int)]) H (.int ((pl + j : Nat) : Int)) := by
    have t := te_i0 (g := fun i j => V.int (i + j)) (te_fld (σ := L2.start ["self", "ahead"] [V.ref p.self, V.int (j : Int)]) (te_var (i := 0) rfl) L.ob T.cl_Line T.no_Line_place rfl) (te_var (i := 1) (v := .int (j : Int)) rfl)
    have e : (((pl + j : Nat)) : Int) = (pl : Int) + (j : Int) := by omega
    rw [e]
    exact t
  refine if_seq (b := decide (((pl + j : Nat) : Int) < (us.length : Int))) (tt_test (te_i0 tp (te_len (te_fld (te_var rfl) L.ob T.cl_Line T.no_Line_found rfl) (.inl (SqL.of e1))))) (fun h => ?_) fun h => ?_
  · have h := of_decide_eq_true h
    have lt : pl + j < ts.length := by omega
    obtain ⟨us', a, f1, f2, f3⟩ := L.tok (List.getElem?_eq_getElem lt)
    rw [e1] at f1
    cases f1
    refine ret_te (te_ixT (te_ixL (te_fld (te_var rfl) L.ob T.cl_Line T.no_Line_found rfl) tp (SqL.of e1) (atI_nat f2)) te_c (SqT.of f3) (atI_nat (j := 1) rfl)) ?_
    unfold tx at k
    rw [List.getElem?_eq_getElem lt] at k
    exact k
  · have h := of_decide_eq_false h
    refine ret_te te_c ?_
    unfold tx at k
    rw [List.getElem?_eq_none (by omega)] at k
    exact k
theorem ok_Line_is_number (T : Txt K mg A) : FnOk P w K mg base CX0 1 A.a_Line_is_number A.d_Line_is_number ["self", "ahead"] (spIsN A) := by
  refine T.K_Line_is_number.ok sc_Line_is_number (fun ws H Q E ⟨_, _, _, _, _, _, _, e, _⟩ => by rw [e]; rfl) (fun cdv A' outer s H ws Q E hr h => ?_)
  obtain ⟨p, ts, cs, vs, pl, mo, j, rfl, L, k⟩ := h
  refine ⟨_, pss_cons (ps_set (i := 2) sc_Line_is_number.nd rfl (Or.inl rfl) (pe_op op_add (pe_fld (pv 0) rfl) (pv 1)))
  (pss_one (ps_ret (pe_and (pe_cmpR op_lt (pv 2) (pe_callB call_len_seq (by rfl) T.n_len (by decide +kernel) (pa_cons (pe_fld (pv 0) rfl) pa_nil)) (nomark _)) (pe_one (pe_cmpR op_eq (pe_ix ix_tup (pe_ix ix_list (pe_fld (pv 0) rfl) (pv 2) (fun _ _ => rfl)) (pe_int) (fun _ _ => rfl)) (pe_str) (nomark _)))))), ?_⟩
  obtain ⟨us, e1, e2⟩ := L.fd
  have l1 : us.length = ts.length := paired_len e2
  have tp : Te (tOp (rI0 fun i j => V.int (i + j)) (tFld K (tVar 0) "place") (tVar 1)) (L2.start ["self", "ahead", "at"] [V.ref p.self, V.int (j : Int)]) H (.int ((pl + j : Nat) : Int)) := by
    have t := te_i0 (g := fun i j => V.int (i + j)) (te_fld (σ := L2.start ["self", "ahead", "at"] [V.ref p.self, V.int (j : Int)]) (te_var (i := 0) rfl) L.ob T.cl_Line T.no_Line_place rfl) (te_var (i := 1) (v := .int (j : Int)) rfl)
    have e : (((pl + j : Nat)) : Int) = (pl : Int) + (j : Int) := by omega
    rw [e]
    exact t
  refine asg_te tp ?_
  refine set_sl (σ' := [some (.ref p.self), some (.int (j : Int)), some (.int ((pl + j : Nat) : Int))]) rfl ?_
  have tl : Te (tOp (rI0 fun i j => V.bl (decide (i < j))) (tVar 2) (tCB (fun xs H Q => ∃ p ys, xs = [V.ref p] ∧ (SqL K H p ys ∨ SqT K H p ys) ∧ Q (V.int ys.length) H) (tCons (tFld K (tVar 0) "found") tNil))) [some (.ref p.self), some (.int (j : Int)), some (.int ((pl + j : Nat) : Int))] H (.bl (decide (((pl + j : Nat) : Int) < (us.length : Int)))) := te_i0 (te_var rfl) (te_len (te_fld (te_var rfl) L.ob T.cl_Line T.no_Line_found rfl) (.inl (SqL.of e1)))
  unfold isN at k
  by_cases lt : pl + j < ts.length
  · rw [List.getElem?_eq_getElem lt] at k
    obtain ⟨us', a, f1, f2, f3⟩ := L.tok (List.getElem?_eq_getElem lt)
    rw [e1] at f1
    cases f1
    refine ret_te (te_andV tl fun _ => te_eq (te_ixT (te_ixL (te_fld (te_var rfl) L.ob T.cl_Line T.no_Line_found rfl) (te_var rfl) (SqL.of e1) (atI_nat f2)) te_c (SqT.of f3) (atI_nat (j := 0) rfl)) te_c rfl) ?_
    have b1 : decide (((pl + j : Nat) : Int) < (us.length : Int)) = true := decide_eq_true (by omega)
    rw [b1, Bool.true_and]
    have b2 : decide (V.str ts[pl + j].1 = V.str "number") = decide (ts[pl + j].1 = "number") := by
      by_cases q : ts[pl + j].1 = "number"
      · rw [q]; simp
      · rw [decide_eq_false q, decide_eq_false fun z => q (V.str.inj z)]
    rw [b2]
    exact k
  · rw [List.getElem?_eq_none (by omega)] at k
    have b1 : decide (((pl + j : Nat) : Int) < (us.length : Int)) = false := decide_eq_false (by omega)
    rw [b1] at tl
    exact ret_te (te_andV (b := false) tl fun h => nomatch h) k
theorem ok_Line_skip (T : Txt K mg A) : FnOk P w K mg base CX0 1 A.a_Line_skip A.d_Line_skip ["self"] (spSkip A) := by
  refine T.F_Line_skip.ok sc_Line_skip (fun ws H Q E ⟨_, _, _, _, _, _, e, _⟩ => by rw [e]; rfl) (fun cdv A' outer s H ws Q E hr h => ?_)
  obtain ⟨p, ts, cs, vs, pl, mo, rfl, L, k⟩ := h
  refine ⟨_, pss_one (ps_fldaug (pv 0) (pe_int) ip_add), ?_⟩
  have e : ((pl + 1 : Nat) : Int) = (pl : Int) + 1 := by omega
  refine ⟨_, rfl, p.self, _, p.dx, _, _, rfl, L.ob, T.cl_Line, T.no_Line_place, rfl, _, _, rfl, rfl, p.dx, _, L.ob, (by show 8 < 1000; decide), ?_⟩
  have k' := k
  unfold fldL at k'
  rw [e] at k'
  exact k'
end
end K01

/-! defs out of a written dict: is a key in it; a call of a local that holds one of several defs, which may raise -/
namespace YF
open PySem PySem.Spec PyProof.Rows L2
/-- whether a written dict has the key -/
def KHas (K : PySem.W.Frag) (w : World) (a : Addr) (x : Str) (b : Bool) : Prop := ∃ es n r, K.lookup a = some ⟨.type "dict", none, .dict es n, #[]⟩ ∧ PySem.W.KeysLit w.params es.toList ∧ (a == sysModules) = false ∧ PySem.W.nsIn K a x = some r ∧ b = r.isSome
section
variable {X : Cx}
def rInKd (K : PySem.W.Frag) (w : World) : R2 := fun x y H Q => ∃ (z : Str) (p : Addr) (b : Bool), x = .str z ∧ y = .ref p ∧ KHas K w p z b ∧ Q (.bl b) H
theorem op_inKd : OpR X (compareOp .In) (rInKd X.K X.w) := by
  intro pins s σ H x y v u Q I rx ry h
  obtain ⟨z, p, b, rfl, rfl, ⟨es, n, r, hl, hk, low, e, rfl⟩, q⟩ := h
  obtain ⟨t, rfl⟩ := rx
  cases ry
  refine wpAny_in_of (PySem.strKind_is X.prog X.w z t) low (PySem.W.mapOf_K (prog := X.prog) I.kIn hl hk) ?_
  rw [PySem.W.find_K hl e]
  exact ⟨.bl r.isSome, H, I.tok _, rfl, q⟩
end
/-- the promise of a def that may raise -/
structure HeldE (P : Program) (w : World) (K : PySem.W.Frag) (mg : Str → Option Value) (base : Heap) (k : Nat) (f : Addr) (sp : Sp) : Prop where
  ex : ∃ (fd : FuncData) (ps : List Str), FnOk P w K mg base (L2N.CX P w) k f fd ps sp ∧ PySem.W.keepIn K (.ref f) = true ∧ Binds K fd ps []
def tCallAE (i : Nat) (S : Addr → Sp → Prop) (E : L2.St → XK) (t : TA) : TE := fun σ H Q => ∃ f sp, σ[i]? = some (some (.ref f)) ∧ S f sp ∧ t σ H fun vs H1 => sp vs H1 Q (E σ)
section
variable {X : Cx} {k i : Nat} {E : L2.St → XK} {x : Str} {p pos : Pos} {e : Expr} {es : List Expr} {t : TA} {S : Addr → Sp → Prop}
theorem pe_callAE (A : ∀ f sp, S f sp → HeldE X.prog X.w X.K X.mg X.base k f sp) (hr : Room k X.A) (hx : ∀ σ, PassesAt (L2N.CX X.prog X.w) X σ (E σ)) (hN : X.N[i]? = some x) (hv : Vis X.env.scope x) (ha : PA X (e :: es) t)
    (hdb : (x == ("__debug__" : Str)) = false := by decide) (hcd : (x == ("__classdict__" : Str)) = false := by decide)
    (he : starEach (e :: es) X.env = (false, eval e X.env) :: starEach es X.env := by rfl) (hpl : (backTo pos (starEach es X.env)).any (·.1) = false := by rfl) : PE X (.Call (.Name x p) (e :: es) [] pos) (tCallAE i S E t) := by
  refine ⟨fun pins s σ H Q I h => ?_⟩
  obtain ⟨f, sp, hs, hS, ht⟩ := h
  obtain ⟨fd, ps, F, hk, hb⟩ := (A f sp hS).ex
  refine wpAny_Call_Name_kw (thn ((pe_var (pos := p) hN hv hdb hcd).run pins s σ H (fun v H1 => v = .ref f ∧ H1 = H) I ⟨.ref f, hs, rfl, rfl⟩) fun u s1 ⟨v, H1, I1, r1, q1⟩ => ?_)
  obtain ⟨rfl, rfl⟩ := q1
  cases r1
  refine PySem.W.callWith_K (h₀ := X.base) I.ok.mod.kin hk (thn (ha.run pos pins s1 σ _ _ I1 ht) fun us s2 ⟨vs, H2, I2, r, q⟩ => ⟨I2.kIn, ?_⟩) he hpl
  exact run_fnS F hr hb (hx σ) I2 r q
end
/-! a target o.f among targets -/
def gFld (K : PySem.W.Frag) (ta : TE) (f : Str) : TG := fun v σ H Q => ta σ H fun x H1 => ∃ a C dx fs, x = .ref a ∧ H1 a = some (.ins C dx fs) ∧ Cls K C ∧ NoAttr K C f ∧ fs.length < 1000 ∧ Q σ (upd H1 a (.ins C dx (putF f v fs)))
section
variable {X : Cx}
theorem pg_fld {o : Expr} {ta : TE} {f : Str} {pos : Pos} (ha : PE X o ta) : PG X (.Attribute o f pos) (gFld X.K ta f) := by
  refine ⟨fun pins s σ H v u Q I r h => ?_⟩
  rw [assign_Attribute]
  refine wpAny_bind (wpAny_holding (thn (ha.run pins s σ H _ I h) fun ov s2 ⟨x, H2, I2, rx, a, C, dx, fs, ex, ea, c, n, l, q2⟩ => ?_))
  subst ex
  obtain rfl : ov = Value.ref a := rx
  refine wpAny_bind (wpAny_standAt (wpAny_bind (wpAny_holding (setattr_ok I2 ea c n l r fun s3 I3 => ?_))))
  exact wpAny_release ⟨σ, _, I3, q2⟩
end
end YF
/-! the same of defs that raise nothing -/
namespace YF
open PySem PySem.Spec PyProof.Rows L2
structure HeldO (P : Program) (w : World) (K : PySem.W.Frag) (mg : Str → Option Value) (base : Heap) (k : Nat) (f : Addr) (sp : Sp) : Prop where
  ex : ∃ (fd : FuncData) (ps : List Str), FnOk P w K mg base CX0 k f fd ps sp ∧ PySem.W.keepIn K (.ref f) = true ∧ Binds K fd ps []
def tCallAO (i : Nat) (S : Addr → Sp → Prop) (t : TA) : TE := fun σ H Q => ∃ f sp, σ[i]? = some (some (.ref f)) ∧ S f sp ∧ t σ H fun vs H1 => sp vs H1 Q (fun _ _ _ => False)
section
variable {X : Cx} {k i : Nat} {x : Str} {p pos : Pos} {e : Expr} {es : List Expr} {t : TA} {S : Addr → Sp → Prop}
theorem pe_callAO (A : ∀ f sp, S f sp → HeldO X.prog X.w X.K X.mg X.base k f sp) (hr : Room k X.A) (hN : X.N[i]? = some x) (hv : Vis X.env.scope x) (ha : PA X (e :: es) t)
    (hdb : (x == ("__debug__" : Str)) = false := by decide) (hcd : (x == ("__classdict__" : Str)) = false := by decide)
    (he : starEach (e :: es) X.env = (false, eval e X.env) :: starEach es X.env := by rfl) (hpl : (backTo pos (starEach es X.env)).any (·.1) = false := by rfl) : PE X (.Call (.Name x p) (e :: es) [] pos) (tCallAO i S t) := by
  refine ⟨fun pins s σ H Q I h => ?_⟩
  obtain ⟨f, sp, hs, hS, ht⟩ := h
  obtain ⟨fd, ps, F, hk, hb⟩ := (A f sp hS).ex
  refine wpAny_Call_Name_kw (thn ((pe_var (pos := p) hN hv hdb hcd).run pins s σ H (fun v H1 => v = .ref f ∧ H1 = H) I ⟨.ref f, hs, rfl, rfl⟩) fun u s1 ⟨v, H1, I1, r1, q1⟩ => ?_)
  obtain ⟨rfl, rfl⟩ := q1
  cases r1
  refine PySem.W.callWith_K (h₀ := X.base) I.ok.mod.kin hk (thn (ha.run pos pins s1 σ _ _ I1 ht) fun us s2 ⟨vs, H2, I2, r, q⟩ => ⟨I2.kIn, ?_⟩) he hpl
  exact run_fnS (E := fun _ _ _ _ => False) (σ := σ) F hr hb (fun _ _ _ _ _ _ h => h.elim) I2 r q
end
end YF

/-! a word is no key of a written dict -/
namespace YF
open PySem PySem.Spec PyProof.Rows L2
section
variable {X : Cx}
def rNotInKd (K : PySem.W.Frag) (w : World) : R2 := fun x y H Q => ∃ (z : Str) (p : Addr) (b : Bool), x = .str z ∧ y = .ref p ∧ KHas K w p z b ∧ Q (.bl (!b)) H
theorem op_notInKd : OpR X (compareOp .NotIn) (rNotInKd X.K X.w) := by
  intro pins s σ H x y v u Q I rx ry h
  obtain ⟨z, p, b, rfl, rfl, ⟨es, n, r, hl, hk, low, e, rfl⟩, q⟩ := h
  obtain ⟨t, rfl⟩ := rx
  cases ry
  refine wpAny_notIn_of (PySem.strKind_is X.prog X.w z t) low (PySem.W.mapOf_K (prog := X.prog) I.kIn hl hk) ?_
  rw [PySem.W.find_K hl e]
  exact ⟨.bl (!r.isSome), H, I.tok _, rfl, q⟩
end
theorem te_inKd {K : PySem.W.Frag} {w : World} {σ : L2.St} {H : Hp} {ta : TE} {z : Str} {p : Addr} {b : Bool} (ha : Te ta σ H (.str z)) (h : KHas K w p z b) : Te (tOp (rInKd K w) ta (tC (.ref p))) σ H (.bl b) := fun Q q => ha _ ⟨z, p, b, rfl, rfl, h, q⟩
theorem te_notInKd {K : PySem.W.Frag} {w : World} {σ : L2.St} {H : Hp} {ta : TE} {z : Str} {p : Addr} {b : Bool} (ha : Te ta σ H (.str z)) (h : KHas K w p z b) : Te (tOp (rNotInKd K w) ta (tC (.ref p))) σ H (.bl (!b)) := fun Q q => ha _ ⟨z, p, b, rfl, rfl, h, q⟩
theorem te_kdict {K : PySem.W.Frag} {w : World} {σ : L2.St} {H : Hp} {ta : TE} {z : Str} {p : Addr} {v : V} (ha : Te ta σ H (.str z)) (h : KDct K w p z v) : Te (tOp (rIxD K w) (tC (.ref p)) ta) σ H v := fun Q q => ha _ ⟨p, z, v, rfl, rfl, h, q⟩
end YF

namespace K01
open PySem L2 YF YG
/-! ### a line's own methods -/
abbrev CL (A : Adr) (p : PlL) : List Addr := [A.t_is_name, p.self]
theorem Kept.ofTab {H H' : Hp} {P a : Addr} (t : GxR.Tabbed P H H') : Kept [P, a] H H' := fun b o hb e => by
  rw [t.2 b fun z => hb (by rw [z]; exact List.mem_cons_self)]
  exact e
def IntAt (ts : List Tk) (pl : Nat) (n : Int) (k : Nat) : Prop := (tx ts pl ≠ "-" ∧ isN ts pl = true ∧ (tx ts pl).length ≤ 640 ∧ intText? (tx ts pl) = some n ∧ k = pl + 1) ∨
  (tx ts pl = "-" ∧ isN ts (pl + 1) = true ∧ (tx ts (pl + 1)).length ≤ 640 ∧ intText? (tx ts (pl + 1)) = some (-n) ∧ k = pl + 2)
def spLTake (A : Adr) : Sp := fun ws H Q _ => ∃ (p : PlL) (ts : List Tk) (cs vs : List Str) (pl mo : Nat) (x : Str), ws = [.ref p.self, .str x] ∧ LnAt A H p ts cs vs pl mo ∧ tx ts pl = x ∧ ∀ H', Kept (CL A p) H H' → LnAt A H' p ts cs vs (pl + 1) mo → Q .non H'
def spFinish (A : Adr) : Sp := fun ws H Q _ => ∃ (p : PlL) (ts : List Tk) (cs vs : List Str) (pl mo : Nat), ws = [.ref p.self] ∧ LnAt A H p ts cs vs pl mo ∧ pl = ts.length ∧ Q .non H
def spBegin (A : Adr) : Sp := fun ws H Q _ => ∃ (p : PlL) (ts : List Tk) (cs vs : List Str) (pl mo : Nat), ws = [.ref p.self] ∧ LnAt A H p ts cs vs pl mo ∧ mo + 1 ≤ 20 ∧ ∀ H', Kept (CL A p) H H' → LnAt A H' p ts cs vs (pl + 1) (mo + 1) → Q .non H'
def spEndP (A : Adr) : Sp := fun ws H Q _ => ∃ (p : PlL) (ts : List Tk) (cs vs : List Str) (pl mo : Nat), ws = [.ref p.self] ∧ LnAt A H p ts cs vs pl (mo + 1) ∧ ∀ H', Kept (CL A p) H H' → LnAt A H' p ts cs vs pl mo → Q .non H'
def spTakeN (A : Adr) : Sp := fun ws H Q _ => ∃ (p : PlL) (ts : List Tk) (cs vs : List Str) (pl mo : Nat) (n : Int), ws = [.ref p.self] ∧ LnAt A H p ts cs vs pl mo ∧ isN ts pl = true ∧ (tx ts pl).length ≤ 640 ∧ intText? (tx ts pl) = some n ∧ ∀ H', Kept (CL A p) H H' → LnAt A H' p ts cs vs (pl + 1) mo → Q (.int n) H'
def spTakeI (A : Adr) : Sp := fun ws H Q _ => ∃ (p : PlL) (ts : List Tk) (cs vs : List Str) (pl mo k : Nat) (n : Int), ws = [.ref p.self] ∧ LnAt A H p ts cs vs pl mo ∧ IntAt ts pl n k ∧ ∀ H', Kept (CL A p) H H' → LnAt A H' p ts cs vs k mo → Q (.int n) H'
def spNear (A : Adr) : Sp := fun ws H Q _ => ∃ (p : PlL) (ts : List Tk) (cs vs : List Str) (pl mo : Nat), ws = [.ref p.self] ∧ LnAt A H p ts cs vs pl mo ∧ NameOk (tx ts pl) ∧ ∀ H', Kept (CL A p) H H' → LnAt A H' p ts cs vs pl mo → Q (.str (tx ts pl)) H'
/-- names that are taken: a list of texts, or the keys of a dict -/
def Tkn (H : Hp) (q : Addr) (zs : List Str) : Prop := H q = some (.lst (zs.map V.str)) ∨ ∃ kv : List (Key × V), H q = some (.dK kv) ∧ kv.map (·.1) = zs.map Sum.inr
def rInA (K : PySem.W.Frag) : R2 := fun x y H Q => rIn K false x y H Q ∨ ∃ a ov, y = .ref a ∧ DGet H a x ov ∧ Q (.bl ov.isSome) H
theorem op_in_any {X : Cx} (hu : X.A.units + 1 < cLine) : OpR X (compareOp .In) (rInA X.K) := by
  intro pins s σ H x y v u Q I rx ry h
  rcases h with h | ⟨a, ov, rfl, g, q⟩
  · exact op_in_seq pins s σ H x y v u Q I rx ry h
  · cases ry
    exact d_in hu I g rx fun s' I' => ⟨.bl ov.isSome, H, I', rfl, q⟩
def spNew (A : Adr) : Sp := fun ws H Q _ => ∃ (p : PlL) (ts : List Tk) (cs vs : List Str) (pl mo : Nat) (q : Addr) (zs : List Str), ws = [.ref p.self, .ref q] ∧ LnAt A H p ts cs vs pl mo ∧ NameOk (tx ts pl) ∧ Tkn H q zs ∧ tx ts pl ∉ zs ∧ ∀ H', Kept (CL A p) H H' → LnAt A H' p ts cs vs (pl + 1) mo → Q (.str (tx ts pl)) H'
def spKnown (A : Adr) : Sp := fun ws H Q _ => ∃ (p : PlL) (ts : List Tk) (cs vs : List Str) (pl mo : Nat), ws = [.ref p.self] ∧ LnAt A H p ts cs vs pl mo ∧ NameOk (tx ts pl) ∧ (tx ts pl ∈ cs ∨ tx ts pl ∈ vs) ∧ ∀ H', Kept (CL A p) H H' → LnAt A H' p ts cs vs pl mo → Q (.str (tx ts pl)) H'
theorem te_meD {C : Addr} {m : Str} {sp : Sp} {E : XK} {to : TE} {t : TA} {σ : L2.St} {H : Hp} {p dx : Addr} {fs : List (Str × V)} {vs dvs : List V} {v : V} (ha : Te to σ H (.ref p)) (h : H p = some (.ins C dx fs)) (l : fs.lookup m = none) (hb : Ta t σ H vs) (g : ∀ Q, Q v H → sp (.ref p :: (vs ++ dvs)) H Q E) : Te (tMeth C m sp dvs E to t) σ H v := fun Q q => meth_go ha h l hb (g Q q)
theorem cut_sq {t u : TS} {D : Ends} {σ : L2.St} {H : Hp} (h : tSeq t u D σ H) : C8.tCut t u D σ H := ⟨u D, h, fun _ _ q => q⟩
theorem ta1 {te : TE} {σ : L2.St} {H : Hp} {v : V} (h : Te te σ H v) : Ta (tCons te tNil) σ H [v] := ta_cons h ta_nil
theorem un_un {r : V → Hp → VK → Prop} {te : TE} {σ : L2.St} {H : Hp} {Q : VK} (h : te σ H fun x H1 => r x H1 Q) : tUn r te σ H Q := h
theorem ifn_un {te : TE} {tu rest : TS} {D : Ends} {σ : L2.St} {H : Hp} (h : te σ H fun v H1 => ∃ b, v = .bl b ∧ (if (!b) = true then tu { D with nx := rest D } σ H1 else rest D σ H1)) : tSeq (tIfS (tNot (tTest te)) tu tNext) rest D σ H := h
theorem te_ints {ta : TE} {σ : L2.St} {H : Hp} {z : Str} {n : Int} (ha : Te ta σ H (.str z)) (e : intText? z = some n) (l : z.length ≤ 640) : Te (tCB (fun xs H Q => ∃ a n, xs = [.str a] ∧ intText? a = some n ∧ a.length ≤ 640 ∧ Q (.int n) H) (tCons ta tNil)) σ H (.int n) := fun Q q => ha _ ⟨z, n, rfl, e, l, q⟩
section
variable {A : Adr} {σ : L2.St} {H H' : Hp} {p : PlL} {ts : List Tk} {cs vs : List Str} {pl mo : Nat} {to : TE} {E : XK}
theorem te_text (L : LnAt A H p ts cs vs pl mo) (hp : Te to σ H (.ref p.self)) : Te (tMeth A.a_Line "text" (spText A) [.int 0] E to tNil) σ H (.str (tx ts pl)) := te_meD hp L.ob rfl ta_nil fun Q q => ⟨p, ts, cs, vs, pl, mo, 0, rfl, L, q⟩
theorem te_text1 (L : LnAt A H p ts cs vs pl mo) (hp : Te to σ H (.ref p.self)) : Te (tMeth A.a_Line "text" (spText A) [] E to (tCons (tC (.int 1)) tNil)) σ H (.str (tx ts (pl + 1))) := te_meD hp L.ob rfl (ta_cons te_c ta_nil) fun Q q => ⟨p, ts, cs, vs, pl, mo, 1, rfl, L, q⟩
theorem te_isN (L : LnAt A H p ts cs vs pl mo) (hp : Te to σ H (.ref p.self)) : Te (tMeth A.a_Line "is_number" (spIsN A) [.int 0] E to tNil) σ H (.bl (isN ts pl)) := te_meD hp L.ob rfl ta_nil fun Q q => ⟨p, ts, cs, vs, pl, mo, 0, rfl, L, q⟩
theorem te_isN1 (L : LnAt A H p ts cs vs pl mo) (hp : Te to σ H (.ref p.self)) : Te (tMeth A.a_Line "is_number" (spIsN A) [] E to (tCons (tC (.int 1)) tNil)) σ H (.bl (isN ts (pl + 1))) := te_meD hp L.ob rfl (ta_cons te_c ta_nil) fun Q q => ⟨p, ts, cs, vs, pl, mo, 1, rfl, L, q⟩
theorem te_over (L : LnAt A H p ts cs vs pl mo) (hp : Te to σ H (.ref p.self)) : Te (tMeth A.a_Line "is_over" (spOver A) [] E to tNil) σ H (.bl (decide (pl = ts.length))) := te_meD hp L.ob rfl ta_nil fun Q q => ⟨p, ts, cs, vs, pl, mo, rfl, L, q⟩
theorem go_skip {Q : VK} (L : LnAt A H p ts cs vs pl mo) (hp : Te to σ H (.ref p.self)) (k : ∀ H', Kept (CL A p) H H' → LnAt A H' p ts cs vs (pl + 1) mo → Q .non H') : tMeth A.a_Line "skip" (spSkip A) [] E to tNil σ H Q :=
  meth_go hp L.ob rfl ta_nil ⟨p, ts, cs, vs, pl, mo, rfl, L, k _ (Kept.refl.upd (by simp)) (L.wr _ _)⟩
end
section
variable {P : Program} {w : World} {K : PySem.W.Frag} {mg : Str → Option Value} {base : Heap} {A : Adr}
theorem ok_Line_take (T : Txt K mg A) : FnOk P w K mg base CX0 2 A.a_Line_take A.d_Line_take ["self", "text"] (spLTake A) := by
  refine T.F_Line_take.ok (k := 1) sc_Line_take (fun ws H Q E ⟨_, _, _, _, _, _, _, e, _⟩ => by rw [e]; rfl) (fun cdv A' outer s H ws Q E hr h => ?_)
  obtain ⟨p, ts, cs, vs, pl, mo, x, rfl, L, e, k⟩ := h
  refine ⟨_, C8.pss_cut (ps_if (pt_cmpR op_ne (pe_meth0 (pv 0) T.cl_Line T.m_Line_text (ok_Line_text T) (hr.mono (by decide)) (bd_Line_text_0 T).choose_spec.2 (bd_Line_text_0 T).choose_spec.1 pass0) (pv 1) (nomark _))
  (pss_one (ps_dead))
  (pss_nil))
  (pss_one (ps_expr (pe_meth0 (pv 0) T.cl_Line T.m_Line_skip (ok_Line_skip T) (hr.mono (by decide)) T.b_Line_skip .nil pass0))), ?_⟩
  refine cut_sq (if_seq (tt_test (te_ne (te_text L (te_var rfl)) (te_var (v := .str x) rfl) rfl)) (fun h => ?_) fun _ => ?_)
  · rw [e] at h
    simp at h
  · exact go_skip L (te_var rfl) k
theorem ok_Line_finish (T : Txt K mg A) : FnOk P w K mg base CX0 2 A.a_Line_finish A.d_Line_finish ["self"] (spFinish A) := by
  refine T.F_Line_finish.ok (k := 1) sc_Line_finish (fun ws H Q E ⟨_, _, _, _, _, _, e, _⟩ => by rw [e]; rfl) (fun cdv A' outer s H ws Q E hr h => ?_)
  obtain ⟨p, ts, cs, vs, pl, mo, rfl, L, e, k⟩ := h
  refine ⟨_, pss_one (ps_if (pt_not (pt_val (pe_meth0 (pv 0) T.cl_Line T.m_Line_is_over (ok_Line_is_over T) (hr.mono (by decide)) T.b_Line_is_over .nil pass0)))
  (pss_one (ps_dead))
  (pss_nil)), ?_⟩
  refine if_go (b := !decide (pl = ts.length)) (tt_not (tt_test (te_over L (te_var rfl)))) (fun h => ?_) fun _ => ?_
  · rw [e] at h
    simp at h
  · exact k
theorem ok_Line_begin_part (T : Txt K mg A) : FnOk P w K mg base CX0 2 A.a_Line_begin_part A.d_Line_begin_part ["self"] (spBegin A) := by
  refine T.F_Line_begin_part.ok (k := 1) sc_Line_begin_part (fun ws H Q E ⟨_, _, _, _, _, _, e, _⟩ => by rw [e]; rfl) (fun cdv A' outer s H ws Q E hr h => ?_)
  obtain ⟨p, ts, cs, vs, pl, mo, rfl, L, l, k⟩ := h
  refine ⟨_, pss_cons (ps_fldaug (pv 0) (pe_int) ip_add)
  (C8.pss_cut (ps_if (pt_cmpR op_gt (pe_fld (pv 0) rfl) (pe_glob (v := .int 20) rfl T.g_MOST_OPEN ⟨_, rfl⟩) (nomark _))
  (pss_one (ps_dead))
  (pss_nil))
  (pss_one (ps_expr (pe_meth0 (pv 0) T.cl_Line T.m_Line_skip (ok_Line_skip T) (hr.mono (by decide)) T.b_Line_skip .nil pass0)))), ?_⟩
  have e : ((mo + 1 : Nat) : Int) = (mo : Int) + 1 := by omega
  refine ⟨_, rfl, p.self, _, p.dx, _, _, rfl, L.ob, T.cl_Line, T.no_Line_many_open, rfl, _, _, rfl, rfl, p.dx, _, L.ob, (by show 8 < 1000; decide), ?_⟩
  generalize hH : upd H p.self _ = H1
  have kp : Kept (CL A p) H H1 := by rw [← hH]; exact Kept.refl.upd (by simp)
  have L' : LnAt A H1 p ts cs vs pl (mo + 1) := by
    have q := L.wr pl (mo + 1)
    unfold fldL at q
    rw [e] at q
    rw [← hH]
    exact q
  refine cut_sq (if_seq (tt_test (te_i0 (te_fld (te_var rfl) L'.ob T.cl_Line T.no_Line_many_open rfl) te_c)) (fun h => ?_) fun _ => ?_)
  · have := of_decide_eq_true h
    omega
  · exact go_skip L' (te_var rfl) fun H' k' L2 => k H' (kp.trans k') L2
theorem ok_Line_end_part (T : Txt K mg A) : FnOk P w K mg base CX0 1 A.a_Line_end_part A.d_Line_end_part ["self"] (spEndP A) := by
  refine T.F_Line_end_part.ok sc_Line_end_part (fun ws H Q E ⟨_, _, _, _, _, _, e, _⟩ => by rw [e]; rfl) (fun cdv A' outer s H ws Q E hr h => ?_)
  obtain ⟨p, ts, cs, vs, pl, mo, rfl, L, k⟩ := h
  refine ⟨_, pss_one (ps_fldaug (pv 0) (pe_int) ip_sub), ?_⟩
  have e : (mo : Int) = ((mo + 1 : Nat) : Int) - 1 := by omega
  refine ⟨_, rfl, p.self, _, p.dx, _, _, rfl, L.ob, T.cl_Line, T.no_Line_many_open, rfl, _, _, rfl, rfl, p.dx, _, L.ob, (by show 8 < 1000; decide), ?_⟩
  have k' := k _ (Kept.refl.upd (by simp)) (L.wr pl mo)
  unfold fldL at k'
  rw [e] at k'
  exact k'
theorem ok_Line_take_number (T : Txt K mg A) : FnOk P w K mg base CX0 2 A.a_Line_take_number A.d_Line_take_number ["self"] (spTakeN A) := by
  refine T.F_Line_take_number.ok (k := 1) sc_Line_take_number (fun ws H Q E ⟨_, _, _, _, _, _, _, e, _⟩ => by rw [e]; rfl) (fun cdv A' outer s H ws Q E hr h => ?_)
  obtain ⟨p, ts, cs, vs, pl, mo, n, rfl, L, i, l, e, k⟩ := h
  refine ⟨_, C8.pss_cut (ps_if (pt_not (pt_val (pe_meth0 (pv 0) T.cl_Line T.m_Line_is_number (ok_Line_is_number T) (hr.mono (by decide)) (bd_Line_is_number_0 T).choose_spec.2 (bd_Line_is_number_0 T).choose_spec.1 pass0)))
  (pss_one (ps_dead))
  (pss_nil))
  (pss_cons (ps_set (i := 1) sc_Line_take_number.nd rfl (Or.inl rfl) (pe_callTy call_int_str (by rfl) T.n_int (by decide +kernel) (pa_cons (pe_meth0 (pv 0) T.cl_Line T.m_Line_text (ok_Line_text T) (hr.mono (by decide)) (bd_Line_text_0 T).choose_spec.2 (bd_Line_text_0 T).choose_spec.1 pass0) pa_nil)))
  (pss_cons (ps_expr (pe_meth0 (pv 0) T.cl_Line T.m_Line_skip (ok_Line_skip T) (hr.mono (by decide)) T.b_Line_skip .nil pass0))
  (pss_one (ps_ret (pv 1))))), ?_⟩
  refine cut_sq (if_seq (tt_not (tt_test (te_isN L (te_var rfl)))) (fun h => ?_) fun _ => ?_)
  · rw [i] at h
    cases h
  · refine asg_te (te_ints (te_text L (te_var rfl)) e l) ?_
    refine set_sl (σ' := [some (.ref p.self), some (.int n)]) rfl ?_
    refine sq_go (go_skip L (te_var rfl) fun H' k' L' => ?_)
    exact ret_te (te_var rfl) (k H' k' L')
theorem ok_Line_take_integer (T : Txt K mg A) : FnOk P w K mg base CX0 3 A.a_Line_take_integer A.d_Line_take_integer ["self"] (spTakeI A) := by
  refine T.F_Line_take_integer.ok (k := 2) sc_Line_take_integer (fun ws H Q E ⟨_, _, _, _, _, _, _, _, e, _⟩ => by rw [e]; rfl) (fun cdv A' outer s H ws Q E hr h => ?_)
  obtain ⟨p, ts, cs, vs, pl, mo, j, n, rfl, L, i, k⟩ := h
  refine ⟨_, pss_cons (ps_if (pt_cmpR op_eq (pe_meth0 (pv 0) T.cl_Line T.m_Line_text (ok_Line_text T) (hr.mono (by decide)) (bd_Line_text_0 T).choose_spec.2 (bd_Line_text_0 T).choose_spec.1 pass0) (pe_str) (nomark _))
  (pss_cons (ps_expr (pe_meth0 (pv 0) T.cl_Line T.m_Line_skip (ok_Line_skip T) (hr.mono (by decide)) T.b_Line_skip .nil pass0))
  (pss_one (ps_ret (pe_un un_neg (pe_meth0 (pv 0) T.cl_Line T.m_Line_take_number (ok_Line_take_number T) (hr.mono (by decide)) T.b_Line_take_number .nil pass0)))))
  (pss_nil))
  (pss_one (ps_ret (pe_meth0 (pv 0) T.cl_Line T.m_Line_take_number (ok_Line_take_number T) (hr.mono (by decide)) T.b_Line_take_number .nil pass0))), ?_⟩
  refine if_seq (tt_test (te_eq (te_text L (te_var rfl)) te_c rfl)) (fun h => ?_) fun h => ?_
  · have h := V.str.inj (of_decide_eq_true h)
    rcases i with ⟨i1, _⟩ | ⟨i1, i2, i3, i4, rfl⟩
    · exact absurd h i1
    · refine sq_go (go_skip L (te_var rfl) fun H' k' L' => ?_)
      refine ret_un (un_un (meth_go (te_var rfl) L'.ob rfl ta_nil ⟨p, ts, cs, vs, pl + 1, mo, -n, rfl, L', i2, i3, i4, fun H2 k2 L2 => ⟨-n, rfl, ?_⟩⟩))
      dsimp only
      rw [Int.neg_neg]
      exact k H2 (k'.trans k2) L2
  · have h := of_decide_eq_false h
    rcases i with ⟨i1, i2, i3, i4, rfl⟩ | ⟨i1, _⟩
    · exact ret_un (meth_go (te_var rfl) L.ob rfl ta_nil ⟨p, ts, cs, vs, pl, mo, n, rfl, L, i2, i3, i4, k⟩)
    · exact absurd (by rw [i1]) h
theorem ok_Line_near_name (TB : GxR.TabB base mg A.c_is_name A.t_is_name) (T : Txt K mg A) : FnOk P w K mg base CX0 4 A.a_Line_near_name A.d_Line_near_name ["self"] (spNear A) := by
  refine T.F_Line_near_name.ok (k := 3) sc_Line_near_name (fun ws H Q E ⟨_, _, _, _, _, _, e, _⟩ => by rw [e]; rfl) (fun cdv A' outer s H ws Q E hr h => ?_)
  obtain ⟨p, ts, cs, vs, pl, mo, rfl, L, n, k⟩ := h
  refine ⟨_, C8.pss_cut (ps_if (pt_not (pt_val (pe_call (ok_is_name TB T) (hr.mono (by decide)) rfl T.g_is_name T.kp_is_name T.b_is_name .nil pass0 (pa_cons (pe_meth0 (pv 0) T.cl_Line T.m_Line_text (ok_Line_text T) (hr.mono (by decide)) (bd_Line_text_0 T).choose_spec.2 (bd_Line_text_0 T).choose_spec.1 pass0) pa_nil))))
  (pss_one (ps_dead))
  (pss_nil))
  (pss_one (ps_ret (pe_meth0 (pv 0) T.cl_Line T.m_Line_text (ok_Line_text T) (hr.mono (by decide)) (bd_Line_text_0 T).choose_spec.2 (bd_Line_text_0 T).choose_spec.1 pass0))), ?_⟩
  refine cut_sq (ifn_un (go_call (ta1 (te_text L (te_var rfl))) ⟨_, rfl, n, L.tb, fun H' t => ⟨true, rfl, ?_⟩⟩))
  have L' := L.tab t
  exact ret_te (te_text L' (te_var rfl)) (k H' (Kept.ofTab t) L')
theorem vals_in {kv : List (Key × V)} {cs : List Str} {z : Str} (e : kv.map (·.1) = cs.map Sum.inr) : (valV kv (Sum.inr z : Key)).isSome = decide (z ∈ cs) := by
  have i : (Sum.inr z : Key) ∈ kv.map (·.1) ↔ z ∈ cs := by
    rw [e, List.mem_map]
    exact ⟨fun ⟨x, h, q⟩ => by cases q; exact h, fun h => ⟨z, h, rfl⟩⟩
  cases h : valV kv (Sum.inr z : Key) with
  | none => exact (decide_eq_false fun q => valV_not h (i.mpr q)).symm
  | some v => exact (decide_eq_true (i.mp (valV_in h))).symm
theorem te_dinS {σ : L2.St} {H : Hp} {ty td : TE} {z : Str} {q : Addr} {kv : List (Key × V)} {cs : List Str} (ha : Te ty σ H (.str z)) (hb : Te td σ H (.ref q)) (h : H q = some (.dK kv)) (e : kv.map (·.1) = cs.map Sum.inr) : Te (tDIn ty td) σ H (.bl (decide (z ∈ cs))) := fun Q k => ha _ (hb _ ⟨q, _, rfl, DGet.k (k := .inr z) h, by rw [vals_in e]; exact k⟩)
theorem te_dnotinS {σ : L2.St} {H : Hp} {ty td : TE} {z : Str} {q : Addr} {kv : List (Key × V)} {cs : List Str} (ha : Te ty σ H (.str z)) (hb : Te td σ H (.ref q)) (h : H q = some (.dK kv)) (e : kv.map (·.1) = cs.map Sum.inr) : Te (tDNotIn ty td) σ H (.bl (!decide (z ∈ cs))) := fun Q k => ha _ (hb _ ⟨q, _, rfl, DGet.k (k := .inr z) h, by rw [vals_in e]; exact k⟩)
theorem ok_Line_take_new_name (TB : GxR.TabB base mg A.c_is_name A.t_is_name) (T : Txt K mg A) : FnOk P w K mg base CX0 5 A.a_Line_take_new_name A.d_Line_take_new_name ["self", "taken"] (spNew A) := by
  refine T.F_Line_take_new_name.ok (k := 4) sc_Line_take_new_name (fun ws H Q E ⟨_, _, _, _, _, _, _, _, e, _⟩ => by rw [e]; rfl) (fun cdv A' outer s H ws Q E hr h => ?_)
  obtain ⟨p, ts, cs, vs, pl, mo, q, zs, rfl, L, n, eq, ni, k⟩ := h
  refine ⟨_, pss_cons (ps_set (i := 2) sc_Line_take_new_name.nd rfl (Or.inl rfl) (pe_meth0 (pv 0) T.cl_Line T.m_Line_near_name (ok_Line_near_name TB T) (hr.mono (by decide)) T.b_Line_near_name .nil pass0))
  (C8.pss_cut (ps_if (pt_cmpR (op_in_any (hu_of hr)) (pv 2) (pv 1) (by rfl))
  (pss_one (ps_dead))
  (pss_nil))
  (pss_cons (ps_expr (pe_meth0 (pv 0) T.cl_Line T.m_Line_skip (ok_Line_skip T) (hr.mono (by decide)) T.b_Line_skip .nil pass0))
  (pss_one (ps_ret (pv 2))))), ?_⟩
  refine asg_un (meth_go (te_var rfl) L.ob rfl ta_nil ⟨p, ts, cs, vs, pl, mo, rfl, L, n, fun H1 k1 L1 => ?_⟩)
  refine set_sl (σ' := [some (.ref p.self), some (.ref q), some (.str (tx ts pl))]) rfl ?_
  have nq : ∀ {o : HO}, H q = some o → (∀ C d f, o ≠ .ins C d f) → (∀ t, o ≠ .tbl t) → q ∉ CL A p := fun {o} eq n1 n2 h => by
    simp only [CL, List.mem_cons, List.not_mem_nil, or_false] at h
    rcases h with h | h
    · obtain ⟨ps, t1, _⟩ := L.tb
      rw [h, t1] at eq
      exact n2 _ (Option.some.inj eq).symm
    · rw [h, L.ob] at eq
      exact n1 _ _ _ (Option.some.inj eq).symm
  have te : Te (tOp (rInA K) (tVar 2) (tVar 1)) [some (.ref p.self), some (.ref q), some (.str (tx ts pl))] H1 (.bl false) := by
    intro R hR
    rcases eq with eq | ⟨kv, eq, ek⟩
    · have e1 := k1 _ _ (nq eq (by intro _ _ _ z; cases z) (by intro _ z; cases z)) eq
      refine ⟨_, rfl, _, rfl, .inl ⟨q, _, rfl, .inl (SqL.of e1), rfl, all_flat zs, ?_⟩⟩
      rw [inV_str, decide_eq_false ni]
      exact hR
    · have e1 := k1 _ _ (nq eq (by intro _ _ _ z; cases z) (by intro _ z; cases z)) eq
      refine ⟨_, rfl, _, rfl, .inr ⟨q, _, rfl, DGet.k (k := .inr (tx ts pl)) e1, ?_⟩⟩
      have := vals_in (z := tx ts pl) ek
      rw [decide_eq_false ni] at this
      rw [this]
      exact hR
  refine cut_sq (if_seq (b := false) (tt_test te) (fun h => nomatch h) fun _ => ?_)
  exact sq_go (go_skip L1 (te_var rfl) fun H2 k2 L2 => ret_te (te_var rfl) (k H2 (k1.trans k2) L2))
theorem ok_Line_near_known_name (TB : GxR.TabB base mg A.c_is_name A.t_is_name) (T : Txt K mg A) : FnOk P w K mg base CX0 5 A.a_Line_near_known_name A.d_Line_near_known_name ["self"] (spKnown A) := by
  refine T.F_Line_near_known_name.ok (k := 4) sc_Line_near_known_name (fun ws H Q E ⟨_, _, _, _, _, _, e, _⟩ => by rw [e]; rfl) (fun cdv A' outer s H ws Q E hr h => ?_)
  obtain ⟨p, ts, cs, vs, pl, mo, rfl, L, n, m, k⟩ := h
  refine ⟨_, pss_cons (ps_set (i := 1) sc_Line_near_known_name.nd rfl (Or.inl rfl) (pe_meth0 (pv 0) T.cl_Line T.m_Line_near_name (ok_Line_near_name TB T) (hr.mono (by decide)) T.b_Line_near_name .nil pass0))
  (C8.pss_cut (ps_if (PW.pt (pw_and (pt_cmp (pc_dnotin (hu_of hr) (pv 1) (pe_fld (pv 0) rfl))) (pw_and1 (pt_cmp (pc_dnotin (hu_of hr) (pv 1) (pe_fld (pv 0) rfl))))))
  (pss_one (ps_dead))
  (pss_nil))
  (pss_one (ps_ret (pv 1)))), ?_⟩
  refine asg_un (meth_go (te_var rfl) L.ob rfl ta_nil ⟨p, ts, cs, vs, pl, mo, rfl, L, n, fun H1 k1 L1 => ?_⟩)
  refine set_sl (σ' := [some (.ref p.self), some (.str (tx ts pl))]) rfl ?_
  obtain ⟨kv, c1, c2⟩ := L1.hc
  obtain ⟨kw, v1, v2⟩ := L1.hv
  refine cut_sq (if_seq (tt_and (tt_b (te_dnotinS (te_var rfl) (te_fld (te_var rfl) L1.ob T.cl_Line T.no_Line_cells rfl) c1 c2)) fun _ => tt_b (te_dnotinS (te_var rfl) (te_fld (te_var rfl) L1.ob T.cl_Line T.no_Line_variables rfl) v1 v2)) (fun h => ?_) fun _ => ret_te (te_var rfl) (k H1 k1 L1))
  simp only [Bool.and_eq_true, Bool.not_eq_true', decide_eq_false_iff_not] at h
  exact (m.elim h.1 h.2).elim
end
end K01

namespace K01
open PySem L2 YF YG
/-! ### a new line -/
section
variable {P : Program} {w : World} {K : PySem.W.Frag} {mg : Str → Option Value} {base : Heap} {A : Adr}
theorem upd_off {H : Hp} {a b : Addr} {o u : HO} (h : H b = some u) (n : b ≠ a) : (upd H a o) b = some u := by
  rw [upd_ne n]
  exact h
theorem fset {σ : L2.St} {te : TE} {D : Ends} {H : Hp} {x C dx : Addr} {fs : List (Str × V)} {f : Str} {v : V} (hσ : σ[0]? = some (some (.ref x))) (ob : H x = some (.ins C dx fs)) (c : Cls K C) (n : NoAttr K C f) (hl : fs.length < 1000) (ht : Te te σ H v)
    (k : ∀ G, G x = some (.ins C dx (putF f v fs)) → (∀ b u, b ≠ x → H b = some u → G b = some u) → D.nx σ G) : sFld K (tVar 0) te f D σ H :=
  ht _ ⟨_, hσ, x, C, dx, fs, rfl, ob, c, n, hl, k _ upd_same fun b u nb e => upd_off e nb⟩
theorem fnew {σ : L2.St} {te : TE} {D : Ends} {H : Hp} {x C dx : Addr} {fs : List (Str × V)} {f : Str} {o : HO} (hσ : σ[0]? = some (some (.ref x))) (ob : H x = some (.ins C dx fs)) (c : Cls K C) (n : NoAttr K C f) (hl : fs.length < 1000) (ht : ∀ Q : VK, (∀ l, H l = none → Q (.ref l) (upd H l o)) → te σ H Q)
    (k : ∀ l G, H l = none → G x = some (.ins C dx (putF f (.ref l) fs)) → G l = some o → (∀ b u, b ≠ x → H b = some u → G b = some u) → D.nx σ G) : sFld K (tVar 0) te f D σ H :=
  ht _ fun l hl0 => ⟨_, hσ, x, C, dx, fs, rfl, (upd_off ob fun z => by rw [← z, ob] at hl0; cases hl0), c, n, hl, k l _ hl0 upd_same (upd_off upd_same fun z => by rw [z, ob] at hl0; cases hl0) fun b u nb e => upd_off (upd_off e fun z => by rw [z, hl0] at e; cases e) nb⟩
def spLine (A : Adr) : Sp := fun ws H Q _ => ∃ (x dx pc qv : Addr) (z : Str) (n : Int) (ib : Bool) (ts : List Tk) (cs' vs : List Str), ws = [.ref x, .str z, .int n, .ref pc, .ref qv, .bl ib] ∧ H x = some (.ins A.a_Line dx []) ∧ z.length ≤ 640 ∧ Scan 0 (cs z) ts none ∧ ts.length ≤ 1000 ∧
  (∃ kv, H pc = some (.dK kv) ∧ kv.map (·.1) = cs'.map Sum.inr) ∧ (∃ kv, H qv = some (.dK kv) ∧ kv.map (·.1) = vs.map Sum.inr) ∧ GxR.TabG H A.t_is_name ∧
  ∀ (p : PlL) H', p.self = x → (∀ b u, b ≠ x → H b = some u → H' b = some u) → LnAt A H' p ts cs' vs 0 0 → p.ib = ib → Q .non H'
theorem ok_Line___init__ (T : Txt K mg A) : FnOk P w K mg base CX0 6 A.a_Line___init__ A.d_Line___init__ ["self", "text", "number", "cells", "variables", "in_block"] (spLine A) := by
  refine T.F_Line___init__.ok (k := 5) sc_Line___init__ (fun ws H Q E ⟨_, _, _, _, _, _, _, _, _, _, e, _⟩ => by rw [e]; rfl) (fun cdv A' outer s H ws Q E hr h => ?_)
  obtain ⟨x, dx, pc, qv, z, n, ib, ts, cs', vs, rfl, hx, zl, sc, tl, ⟨kv, hc, ec⟩, ⟨kw, hv, ev⟩, tb, k⟩ := h
  refine ⟨_, pss_cons (ps_fld (pv 0) (pv 2) rfl)
  (pss_cons (ps_fld (pv 0) (pe_call (ok_tokens T) (hr.mono (by decide)) rfl T.g_tokens T.F_tokens.kp T.b_tokens .nil pass0 (pa_cons (pv 1) (pa_cons (pv 2) pa_nil))) rfl)
  (pss_cons (ps_fld (pv 0) (pe_op op_add (pe_callB call_len_str (by rfl) T.n_len (by decide +kernel) (pa_cons (pv 1) pa_nil)) (pe_int)) rfl)
  (pss_cons (ps_fld (pv 0) (pe_int) rfl)
  (pss_cons (ps_fld (pv 0) (pe_int) rfl)
  (pss_cons (ps_fld (pv 0) (pv 3) rfl)
  (pss_cons (ps_fld (pv 0) (pv 4) rfl)
  (pss_one (ps_fld (pv 0) (pv 5) rfl)))))))), ?_⟩
  try dsimp only
  refine fset (fs := []) (v := .int n) rfl hx T.cl_Line T.no_Line_number (by show 0 < 1000; decide) (te_var rfl) fun G1 ob1 S1 => ?_
  try dsimp only
  refine YG.fld_un (go_call (ta_cons (te_var rfl) (ta_cons (te_var rfl) ta_nil)) ⟨z, n, ts, rfl, zl, sc, fun pf us G2 s2 hpf hd hP => ?_⟩)
  have ob2 : G2 x = some (.ins A.a_Line dx [("number", .int n)]) := s2 _ _ ob1
  have npf : pf ≠ x := fun z => by rw [z, ob1] at hpf; cases hpf
  refine ⟨_, rfl, x, A.a_Line, dx, [("number", .int n)], rfl, ob2, T.cl_Line, T.no_Line_found, by show 1 < 1000; decide, ?_⟩
  generalize hG : upd G2 x _ = G3
  have ob3 : G3 x = some (.ins A.a_Line dx [("number", .int n), ("found", .ref pf)]) := by rw [← hG]; exact upd_same
  have S3 : ∀ b u, b ≠ x → G2 b = some u → G3 b = some u := fun b u nb e => by rw [← hG]; exact upd_off e nb
  try dsimp only
  refine fset (fs := [("number", .int n), ("found", .ref pf)]) (v := .int ((z.length : Int) + 1)) rfl ob3 T.cl_Line T.no_Line_behind (by show 2 < 1000; decide) (te_i0 (te_lens (te_var rfl) (by rw [sizeLine_eq]; omega)) te_c) fun G4 ob4 S4 => ?_
  try dsimp only
  refine fset (fs := [("number", .int n), ("found", .ref pf), ("behind", .int ((z.length : Int) + 1))]) (v := .int 0) rfl ob4 T.cl_Line T.no_Line_place (by show 3 < 1000; decide) te_c fun G5 ob5 S5 => ?_
  try dsimp only
  refine fset (fs := [("number", .int n), ("found", .ref pf), ("behind", .int ((z.length : Int) + 1)), ("place", .int 0)]) (v := .int 0) rfl ob5 T.cl_Line T.no_Line_many_open (by show 4 < 1000; decide) te_c fun G6 ob6 S6 => ?_
  try dsimp only
  refine fset (fs := [("number", .int n), ("found", .ref pf), ("behind", .int ((z.length : Int) + 1)), ("place", .int 0), ("many_open", .int 0)]) (v := .ref pc) rfl ob6 T.cl_Line T.no_Line_cells (by show 5 < 1000; decide) (te_var rfl) fun G7 ob7 S7 => ?_
  try dsimp only
  refine fset (fs := [("number", .int n), ("found", .ref pf), ("behind", .int ((z.length : Int) + 1)), ("place", .int 0), ("many_open", .int 0), ("cells", .ref pc)]) (v := .ref qv) rfl ob7 T.cl_Line T.no_Line_variables (by show 6 < 1000; decide) (te_var rfl) fun G8 ob8 S8 => ?_
  try dsimp only
  refine fset (fs := [("number", .int n), ("found", .ref pf), ("behind", .int ((z.length : Int) + 1)), ("place", .int 0), ("many_open", .int 0), ("cells", .ref pc), ("variables", .ref qv)]) (v := .bl ib) rfl ob8 T.cl_Line T.no_Line_in_block (by show 7 < 1000; decide) (te_var rfl) fun G9 ob9 S9 => ?_
  try dsimp only
  have T3 : ∀ b u, b ≠ x → G2 b = some u → G9 b = some u := fun b u nb e => S9 b u nb (S8 b u nb (S7 b u nb (S6 b u nb (S5 b u nb (S4 b u nb (S3 b u nb e))))))
  have TT : ∀ b u, b ≠ x → H b = some u → G9 b = some u := fun b u nb e => T3 b u nb (s2 b u (S1 b u nb e))
  have nx : ∀ {b : Addr} {u : HO}, H b = some u → (∀ C d f, u ≠ .ins C d f) → b ≠ x := fun {b u} e q z => by
    rw [z, hx] at e
    exact q _ _ _ (Option.some.inj e).symm
  obtain ⟨ps, t1, t2⟩ := tb
  refine k ⟨x, dx, pf, pc, qv, n, (z.length : Int) + 1, ib⟩ G9 rfl TT ⟨ob9, ⟨us, T3 _ _ npf hd, paired_mapP hP fun t v ⟨b, f1, f2⟩ => ⟨b, f1, T3 _ _ (fun q => ?_) f2⟩⟩, ⟨kv, TT _ _ (nx hc (by intro _ _ _ q; cases q)) hc, ec⟩, ⟨kw, TT _ _ (nx hv (by intro _ _ _ q; cases q)) hv, ev⟩, ⟨ps, TT _ _ (nx t1 (by intro _ _ _ q; cases q)) t1, t2⟩, tl⟩ rfl
  rw [q, ob2] at f2
  cases f2
end
end K01

namespace K01
open PySem L2 YF YG
/-! ### how tokens are read as an expression -/
structure Tx where
  ts : List Tk
  cs : List Str
  vs : List Str
  ib : Bool
abbrev Rl := Nat → Nat → Ex → Nat → Prop
def fol : List Str := ["", ")", "+", "-", "*", "/", "rest", "<", "<=", "=", ">", ">=", "and", "or"]
def opSum : List (Str × Str) := [("+", "plus"), ("-", "minus")]
def opPrd : List (Str × Str) := [("*", "times"), ("/", "over"), ("rest", "rest")]
def opCmp : List (Str × Str) := [("<", "less"), ("<=", "atmost"), ("=", "same"), (">", "less"), (">=", "atmost")]
/-- one operator behind another, each to the left -/
inductive Chain (X : Tx) (ops : List (Str × Str)) (sub : Rl) (mo : Nat) : Nat → Ex → Nat → Ex → Nat → Prop
  | nil {e : Ex} {pl : Nat} (f : tx X.ts pl ∈ fol) (h : ∀ u, (tx X.ts pl, u) ∉ ops) : Chain X ops sub mo 0 e pl e pl
  | cons {k : Nat} {e a e' : Ex} {u : Str} {pl p1 p2 : Nat} (f : tx X.ts pl ∈ fol) (h : (tx X.ts pl, u) ∈ ops) (s : sub mo (pl + 1) a p1) (r : Chain X ops sub mo k (.two u e a) p1 e' p2) : Chain X ops sub mo (k + 1) e pl e' p2
theorem Chain.mono {X : Tx} {ops : List (Str × Str)} {s1 s2 : Rl} {mo : Nat} (h : ∀ mo pl e q, s1 mo pl e q → s2 mo pl e q) {k : Nat} {e e' : Ex} {pl q : Nat} (c : Chain X ops s1 mo k e pl e' q) : Chain X ops s2 mo k e pl e' q := by
  induction c with
  | nil f n => exact .nil f n
  | cons f m s r ih => exact .cons f m (h _ _ _ _ s) ih
def Lft (X : Tx) (ops : List (Str × Str)) (sub : Rl) : Rl := fun mo pl e q => ∃ k a p1, sub mo pl a p1 ∧ Chain X ops sub mo k a p1 e q
def swp (z : Str) : Bool := decide (z = ">") || decide (z = ">=")
def Cmp (X : Tx) (sub : Rl) : Rl := fun mo pl e q => ∃ a p1, sub mo pl a p1 ∧ tx X.ts p1 ∈ fol ∧ (((∀ u, (tx X.ts p1, u) ∉ opCmp) ∧ e = a ∧ q = p1) ∨
  ∃ u b, (tx X.ts p1, u) ∈ opCmp ∧ sub mo (p1 + 1) b q ∧ e = if swp (tx X.ts p1) = true then .two u b a else .two u a b)
def Ntt (X : Tx) (nt cm : Rl) : Rl := fun mo pl e q => (tx X.ts pl ≠ "not" ∧ cm mo pl e q) ∨ (tx X.ts pl = "not" ∧ mo + 1 ≤ 20 ∧ ∃ a, nt (mo + 1) (pl + 1) a q ∧ e = .one "not" a)
def NumAt (ts : List Tk) (pl : Nat) (m : Int) : Prop := isN ts pl = true ∧ (tx ts pl).length ≤ 640 ∧ intText? (tx ts pl) = some m
def Sgn (X : Tx) (sg at_ : Rl) : Rl := fun mo pl e q => (tx X.ts pl ≠ "-" ∧ at_ mo pl e q) ∨ (tx X.ts pl = "-" ∧ ∃ m, NumAt X.ts (pl + 1) m ∧ e = .num (-m) ∧ q = pl + 2) ∨
  (tx X.ts pl = "-" ∧ isN X.ts (pl + 1) = false ∧ mo + 1 ≤ 20 ∧ ∃ a, sg (mo + 1) (pl + 1) a q ∧ e = .one "negative" a)
def Prn (X : Tx) (ex : Rl) : Rl := fun mo pl e q => mo + 1 ≤ 20 ∧ ∃ p1, ex (mo + 1) (pl + 1) e p1 ∧ tx X.ts p1 = ")" ∧ q = p1 + 1
def Idx (X : Tx) (pr : Rl) : Rl := fun mo pl e q => (tx X.ts pl = "(" ∧ pr mo pl e q) ∨ (tx X.ts pl ≠ "(" ∧ e = .num 0 ∧ q = pl)
def Atm (X : Tx) (pr : Rl) : Rl := fun mo pl e q => (∃ m, NumAt X.ts pl m ∧ e = .num m ∧ q = pl + 1) ∨ (isN X.ts pl = false ∧ tx X.ts pl = "(" ∧ pr mo pl e q) ∨
  (isN X.ts pl = false ∧ tx X.ts pl ≠ "(" ∧ NameOk (tx X.ts pl) ∧ tx X.ts pl ∈ X.vs ∧ tx X.ts (pl + 1) ≠ "(" ∧ e = .var "local" (.str (tx X.ts pl)) ∧ q = pl + 1) ∨
  (isN X.ts pl = false ∧ tx X.ts pl ≠ "(" ∧ NameOk (tx X.ts pl) ∧ tx X.ts pl ∈ X.cs ∧ tx X.ts pl ∉ X.vs ∧ X.ib = true ∧ ∃ a, Idx X pr mo (pl + 1) a q ∧ e = .cell (tx X.ts pl) a)
structure Ls where
  ex : Rl
  nt : Rl
  sg : Rl
def up (X : Tx) (l : Ls) : Ls where
  ex := Lft X [("or", "or")] (Lft X [("and", "and")] (Ntt X l.nt (Cmp X (Lft X opSum (Lft X opPrd (Sgn X l.sg (Atm X (Prn X l.ex))))))))
  nt := Ntt X l.nt (Cmp X (Lft X opSum (Lft X opPrd (Sgn X l.sg (Atm X (Prn X l.ex))))))
  sg := Sgn X l.sg (Atm X (Prn X l.ex))
def LE (X : Tx) : Nat → Ls
  | 0 => ⟨fun _ _ _ _ => False, fun _ _ _ _ => False, fun _ _ _ _ => False⟩
  | n + 1 => up X (LE X n)
/-! all of it grows -/
section
variable {X : Tx}
def Le (r s : Rl) : Prop := ∀ mo pl e q, r mo pl e q → s mo pl e q
theorem le_lft {ops : List (Str × Str)} {r s : Rl} (h : Le r s) : Le (Lft X ops r) (Lft X ops s) := fun mo pl e q ⟨k, a, p1, h1, h2⟩ => ⟨k, a, p1, h _ _ _ _ h1, h2.mono h⟩
theorem le_cmp {r s : Rl} (h : Le r s) : Le (Cmp X r) (Cmp X s) := fun mo pl e q ⟨a, p1, h1, f, h2⟩ => ⟨a, p1, h _ _ _ _ h1, f, h2.imp id fun ⟨u, b, h3, h4, h5⟩ => ⟨u, b, h3, h _ _ _ _ h4, h5⟩⟩
theorem le_ntt {r s r' s' : Rl} (h : Le r s) (h' : Le r' s') : Le (Ntt X r r') (Ntt X s s') := fun mo pl e q o => o.imp (fun ⟨a, b⟩ => ⟨a, h' _ _ _ _ b⟩) fun ⟨a, b, c, d, f⟩ => ⟨a, b, c, h _ _ _ _ d, f⟩
theorem le_sgn {r s r' s' : Rl} (h : Le r s) (h' : Le r' s') : Le (Sgn X r r') (Sgn X s s') := fun mo pl e q o => o.imp (fun ⟨a, b⟩ => ⟨a, h' _ _ _ _ b⟩) (Or.imp id fun ⟨a, b, c, d, f, g⟩ => ⟨a, b, c, d, h _ _ _ _ f, g⟩)
theorem le_prn {r s : Rl} (h : Le r s) : Le (Prn X r) (Prn X s) := fun mo pl e q ⟨a, p1, b, c⟩ => ⟨a, p1, h _ _ _ _ b, c⟩
theorem le_idx {r s : Rl} (h : Le r s) : Le (Idx X r) (Idx X s) := fun mo pl e q o => o.imp (fun ⟨a, b⟩ => ⟨a, h _ _ _ _ b⟩) id
theorem le_atm {r s : Rl} (h : Le r s) : Le (Atm X r) (Atm X s) := fun mo pl e q o => o.imp id (Or.imp (fun ⟨a, b, c⟩ => ⟨a, b, h _ _ _ _ c⟩) (Or.imp id fun ⟨a, b, c, d, f, g, i, j, k⟩ => ⟨a, b, c, d, f, g, i, le_idx h _ _ _ _ j, k⟩))
theorem le_up {l m : Ls} (h1 : Le l.ex m.ex) (h2 : Le l.nt m.nt) (h3 : Le l.sg m.sg) : Le (up X l).ex (up X m).ex ∧ Le (up X l).nt (up X m).nt ∧ Le (up X l).sg (up X m).sg := by
  have s := le_sgn (X := X) h3 (le_atm (X := X) (le_prn (X := X) h1))
  have n := le_ntt (X := X) h2 (le_cmp (X := X) (le_lft (X := X) (ops := opSum) (le_lft (X := X) (ops := opPrd) s)))
  exact ⟨le_lft (le_lft n), n, s⟩
theorem le_step : ∀ n, Le (LE X n).ex (LE X (n + 1)).ex ∧ Le (LE X n).nt (LE X (n + 1)).nt ∧ Le (LE X n).sg (LE X (n + 1)).sg
  | 0 => ⟨fun _ _ _ _ h => h.elim, fun _ _ _ _ h => h.elim, fun _ _ _ _ h => h.elim⟩
  | n + 1 => le_up (le_step n).1 (le_step n).2.1 (le_step n).2.2
theorem le_add (n : Nat) : ∀ k, Le (LE X n).ex (LE X (n + k)).ex ∧ Le (LE X n).nt (LE X (n + k)).nt ∧ Le (LE X n).sg (LE X (n + k)).sg
  | 0 => ⟨fun _ _ _ _ h => h, fun _ _ _ _ h => h, fun _ _ _ _ h => h⟩
  | k + 1 => ⟨fun _ _ _ _ h => (le_step (n + k)).1 _ _ _ _ ((le_add n k).1 _ _ _ _ h), fun _ _ _ _ h => (le_step (n + k)).2.1 _ _ _ _ ((le_add n k).2.1 _ _ _ _ h), fun _ _ _ _ h => (le_step (n + k)).2.2 _ _ _ _ ((le_add n k).2.2 _ _ _ _ h)⟩
theorem le_any {n m : Nat} (h : n ≤ m) : Le (LE X n).ex (LE X m).ex ∧ Le (LE X n).nt (LE X m).nt ∧ Le (LE X n).sg (LE X m).sg := by
  have := le_add (X := X) n (m - n)
  rw [show n + (m - n) = m by omega] at this
  exact this
end
/-! ### what the written dicts tell; what a reader promises -/
structure DcT (K : PySem.W.Frag) (w : World) (A : Adr) : Prop where
  ch : ∀ z ∈ fol, ∃ b, KHas K w A.a_COMPARISONS z b ∧ (b = true ↔ ∃ u, (z, u) ∈ opCmp)
  sh : ∀ z ∈ fol, ∃ b, KHas K w A.a_SUMS z b ∧ (b = true ↔ ∃ u, (z, u) ∈ opSum)
  ph : ∀ z ∈ fol, ∃ b, KHas K w A.a_PRODUCTS z b ∧ (b = true ↔ ∃ u, (z, u) ∈ opPrd)
  cd : ∀ z u, (z, u) ∈ opCmp → KDct K w A.a_COMPARISONS z (.str u)
  sd : ∀ z u, (z, u) ∈ opSum → KDct K w A.a_SUMS z (.str u)
  pd : ∀ z u, (z, u) ∈ opPrd → KDct K w A.a_PRODUCTS z (.str u)
def kl (C : List Addr) (H : Hp) : Hp := fun b => if b ∈ C then none else H b
theorem kl_sub {C : List Addr} {H : Hp} : Same (kl C H) H := fun b o e => by
  unfold kl at e
  by_cases h : b ∈ C
  · rw [if_pos h] at e; cases e
  · rw [if_neg h] at e; exact e
theorem kl_at {C : List Addr} {H : Hp} {b : Addr} {o : HO} (e : H b = some o) (h : b ∉ C) : kl C H b = some o := by
  unfold kl
  rw [if_neg h]
  exact e
theorem kl_inv {C : List Addr} {H : Hp} {b : Addr} {o : HO} (e : kl C H b = some o) : b ∉ C ∧ H b = some o := by
  unfold kl at e
  by_cases h : b ∈ C
  · rw [if_pos h] at e; cases e
  · rw [if_neg h] at e; exact ⟨h, e⟩
theorem Kept.kl {C : List Addr} {H H' : Hp} (k : Kept C H H') : Same (kl C H) (kl C H') := fun b o e => kl_at (k b o (kl_inv e).1 (kl_inv e).2) (kl_inv e).1
def PRd (K : PySem.W.Frag) (A : Adr) (Q : VK) (H : Hp) (p : PlL) (X : Tx) (mo : Nat) (e : Ex) (q : Nat) : Prop := ∀ v H', Kept (CL A p) H H' → LnAt A H' p X.ts X.cs X.vs q mo → Rp K (kl (CL A p) H') e.d [v] → Q v H'
def spRd (K : PySem.W.Frag) (A : Adr) (R : Tx → Rl) : Sp := fun ws H Q _ => ∃ (p : PlL) (X : Tx) (pl mo : Nat) (e : Ex) (q : Nat), ws = [.ref p.self] ∧ LnAt A H p X.ts X.cs X.vs pl mo ∧ X.ib = p.ib ∧ R X mo pl e q ∧ PRd K A Q H p X mo e q
section
variable {K : PySem.W.Frag} {A : Adr} {σ : L2.St} {H H' : Hp} {p : PlL} {X : Tx} {pl mo q : Nat} {e : Ex} {R : Tx → Rl} {Q : VK}
theorem go_rd {E : XK} {te : TE} (hp : Te te σ H (.ref p.self)) (L : LnAt A H p X.ts X.cs X.vs pl mo) (ib : X.ib = p.ib) (r : R X mo pl e q) (k : PRd K A Q H p X mo e q) : tCall (spRd K A R) [] E (tCons te tNil) σ H Q := go_call (ta1 hp) ⟨p, X, pl, mo, e, q, rfl, L, ib, r, k⟩
theorem PRd.trans {H1 : Hp} (k : PRd K A Q H p X mo e q) (h : Kept (CL A p) H H1) : PRd K A Q H1 p X mo e q := fun v H' k' L r => k v H' (h.trans k') L r
/-- a new tuple -/
theorem rp_tup {C : List Addr} {u : Addr} {xs : List V} {ds : D} (hu : H u = none) (uc : u ∉ C) (l : xs.length ≤ 100000) (r : Rp K (kl C H) ds xs) : Rp K (kl C (upd H u (.tup xs))) (.tup ds) [.ref u] :=
  ⟨u, xs, rfl, SqT.of (kl_at upd_same uc), l, Rp.mono (Kept.of (Same.upd hu)).kl r⟩
theorem LnAt.nCL {u : Addr} (L : LnAt A H p X.ts X.cs X.vs pl mo) (hu : H u = none) : u ∉ CL A p := fun h => by
  simp only [CL, List.mem_cons, List.not_mem_nil, or_false] at h
  rcases h with h | h
  · obtain ⟨ps, t, _⟩ := L.tb
    rw [← h, hu] at t
    cases t
  · have := L.ob
    rw [← h, hu] at this
    cases this
theorem PRd.tup {u : Addr} {xs : List V} {ds : D} (k : PRd K A Q H p X mo e q) (L : LnAt A H p X.ts X.cs X.vs q mo) (hu : H u = none) (l : xs.length ≤ 100000) (ed : e.d = .tup ds) (r : Rp K (kl (CL A p) H) ds xs) : Q (.ref u) (upd H u (.tup xs)) :=
  k _ _ (Kept.of (Same.upd hu)) (L.same (Same.upd hu)) (by rw [ed]; exact rp_tup hu (L.nCL hu) l r)
end
end K01

namespace K01
open PySem L2 YF YG
/-! ### the readers of expressions -/
section
variable {P : Program} {w : World} {K : PySem.W.Frag} {mg : Str → Option Value} {base : Heap} {A : Adr} {k : Nat}
theorem f_expression {R : Tx → Rl} (T : Txt K mg A) (hk : 6 ≤ k) (h : FnOk P w K mg base CX0 k A.a__read_and A.d__read_and ["line"] (spRd K A R)) : FnOk P w K mg base CX0 (k + 1) A.a_read_expression A.d_read_expression ["line"] (spRd K A fun X => Lft X [("or", "or")] (R X)) := by
  refine T.F_read_expression.ok (k := k) sc_read_expression (fun ws H Q E ⟨_, _, _, _, _, _, e, _⟩ => by rw [e]; rfl) (fun cdv A' outer s H ws Q E hr h' => ?_)
  obtain ⟨p, X, pl, mo, e, q, rfl, L, ib, ⟨n, a, p1, r1, c⟩, kQ⟩ := h'
  refine ⟨_, pss_cons (ps_set (i := 1) sc_read_expression.nd rfl (Or.inl rfl) (pe_call h (hr.mono (by omega)) rfl T.g__read_and T.F__read_and.kp T.b__read_and .nil pass0 (pa_cons (pv 0) pa_nil)))
  (pss_cons (ps_while PassesOwn.never (pt_cmpR op_eq (pe_meth0 (pv 0) T.cl_Line T.m_Line_text (ok_Line_text T) (hr.mono (by omega)) (bd_Line_text_0 T).choose_spec.2 (bd_Line_text_0 T).choose_spec.1 pass0) (pe_str) (nomark _))
  (pss_cons (ps_expr (pe_meth0 (pv 0) T.cl_Line T.m_Line_skip (ok_Line_skip T) (hr.mono (by omega)) T.b_Line_skip .nil pass0))
  (pss_one (ps_set (i := 1) sc_read_expression.nd rfl (Or.inl rfl) (pe_tup (pa_cons (pe_str) (pa_cons (pv 1) (pa_cons (pe_call h (hr.mono (by omega)) rfl T.g__read_and T.F__read_and.kp T.b__read_and .nil pass0 (pa_cons (pv 0) pa_nil)) pa_nil))))))))
  (pss_one (ps_ret (pv 1)))), ?_⟩
  refine asg_un (go_rd (te_var rfl) L ib r1 fun v H1 k1 L1 rv => ?_)
  refine set_sl (σ' := [some (.ref p.self), some v]) rfl ?_
  refine ⟨fun m σ H' => ∃ (v : V) (a : Ex) (p1 : Nat), σ = [some (.ref p.self), some v] ∧ Kept (CL A p) H H' ∧ LnAt A H' p X.ts X.cs X.vs p1 mo ∧ Rp K (kl (CL A p) H') a.d [v] ∧ Chain X [("or", "or")] (R X) mo m a p1 e q, ⟨n, v, a, p1, rfl, k1, L1, rv, c⟩, ?_⟩
  rintro m σ H' ⟨v, a, p1, rfl, k1, L1, rv, c⟩
  refine Tt.go (tt_test (te_eq (te_text L1 (te_var rfl)) te_c rfl)) (ite3 (fun ht => ?_) fun ht => ?_)
  · have ht := V.str.inj (of_decide_eq_true ht)
    cases c with
    | nil f hn => exact absurd (by rw [ht]; exact List.mem_cons_self) (hn "or")
    | @cons m' _ b _ u _ p2 _ f hm hs hr' =>
      have eu : u = "or" := by
        have := hm
        rw [ht] at this
        simpa using this
      subst eu
      refine ⟨fun σ' H1 => ∃ (v : V) (a : Ex) (p1 : Nat), σ' = [some (.ref p.self), some v] ∧ Kept (CL A p) H H1 ∧ LnAt A H1 p X.ts X.cs X.vs p1 mo ∧ Rp K (kl (CL A p) H1) a.d [v] ∧ Chain X [("or", "or")] (R X) mo m' a p1 e q, fun σ' H1 w => ⟨m', by omega, w⟩, ?_⟩
      refine sq_go (go_skip L1 (te_var rfl) fun H2 k2 L2 => ?_)
      refine asg1_un (tup_un (cons_un (Te.go te_c (cons_un (Te.go (te_var rfl) (cons_un (go_rd (te_var rfl) L2 ib hs fun v3 H3 k3 L3 r3 => ?_)))))))
      refine ⟨by show 3 ≤ sizeLine; decide, fun u hu => ?_⟩
      refine ⟨.ref u, .two "or" a b, p2, rfl, (k1.trans (k2.trans k3)).trans (Kept.of (Same.upd hu)), L3.same (Same.upd hu), rp_tup hu (L3.nCL hu) (by show 3 ≤ 100000; decide) ⟨_, _, rfl, rfl, _, _, rfl, Rp.mono (k2.trans k3).kl rv, _, _, rfl, r3, rfl⟩, hr'⟩
  · have ht := of_decide_eq_false ht
    cases c with
    | nil f hn => exact ret_te (te_var rfl) (kQ _ _ k1 L1 rv)
    | cons f hm hs hr' =>
      have : tx X.ts p1 = "or" := by
        have := List.mem_singleton.mp hm
        exact (Prod.mk.inj this).1
      exact absurd (by rw [this]) ht
theorem f_and {R : Tx → Rl} (T : Txt K mg A) (hk : 6 ≤ k) (h : FnOk P w K mg base CX0 k A.a__read_not A.d__read_not ["line"] (spRd K A R)) : FnOk P w K mg base CX0 (k + 1) A.a__read_and A.d__read_and ["line"] (spRd K A fun X => Lft X [("and", "and")] (R X)) := by
  refine T.F__read_and.ok (k := k) sc_read_and (fun ws H Q E ⟨_, _, _, _, _, _, e, _⟩ => by rw [e]; rfl) (fun cdv A' outer s H ws Q E hr h' => ?_)
  obtain ⟨p, X, pl, mo, e, q, rfl, L, ib, ⟨n, a, p1, r1, c⟩, kQ⟩ := h'
  refine ⟨_, pss_cons (ps_set (i := 1) sc_read_and.nd rfl (Or.inl rfl) (pe_call h (hr.mono (by omega)) rfl T.g__read_not T.F__read_not.kp T.b__read_not .nil pass0 (pa_cons (pv 0) pa_nil)))
  (pss_cons (ps_while PassesOwn.never (pt_cmpR op_eq (pe_meth0 (pv 0) T.cl_Line T.m_Line_text (ok_Line_text T) (hr.mono (by omega)) (bd_Line_text_0 T).choose_spec.2 (bd_Line_text_0 T).choose_spec.1 pass0) (pe_str) (nomark _))
  (pss_cons (ps_expr (pe_meth0 (pv 0) T.cl_Line T.m_Line_skip (ok_Line_skip T) (hr.mono (by omega)) T.b_Line_skip .nil pass0))
  (pss_one (ps_set (i := 1) sc_read_and.nd rfl (Or.inl rfl) (pe_tup (pa_cons (pe_str) (pa_cons (pv 1) (pa_cons (pe_call h (hr.mono (by omega)) rfl T.g__read_not T.F__read_not.kp T.b__read_not .nil pass0 (pa_cons (pv 0) pa_nil)) pa_nil))))))))
  (pss_one (ps_ret (pv 1)))), ?_⟩
  refine asg_un (go_rd (te_var rfl) L ib r1 fun v H1 k1 L1 rv => ?_)
  refine set_sl (σ' := [some (.ref p.self), some v]) rfl ?_
  refine ⟨fun m σ H' => ∃ (v : V) (a : Ex) (p1 : Nat), σ = [some (.ref p.self), some v] ∧ Kept (CL A p) H H' ∧ LnAt A H' p X.ts X.cs X.vs p1 mo ∧ Rp K (kl (CL A p) H') a.d [v] ∧ Chain X [("and", "and")] (R X) mo m a p1 e q, ⟨n, v, a, p1, rfl, k1, L1, rv, c⟩, ?_⟩
  rintro m σ H' ⟨v, a, p1, rfl, k1, L1, rv, c⟩
  refine Tt.go (tt_test (te_eq (te_text L1 (te_var rfl)) te_c rfl)) (ite3 (fun ht => ?_) fun ht => ?_)
  · have ht := V.str.inj (of_decide_eq_true ht)
    cases c with
    | nil f hn => exact absurd (by rw [ht]; exact List.mem_cons_self) (hn "and")
    | @cons m' _ b _ u _ p2 _ f hm hs hr' =>
      have eu : u = "and" := by
        have := hm
        rw [ht] at this
        simpa using this
      subst eu
      refine ⟨fun σ' H1 => ∃ (v : V) (a : Ex) (p1 : Nat), σ' = [some (.ref p.self), some v] ∧ Kept (CL A p) H H1 ∧ LnAt A H1 p X.ts X.cs X.vs p1 mo ∧ Rp K (kl (CL A p) H1) a.d [v] ∧ Chain X [("and", "and")] (R X) mo m' a p1 e q, fun σ' H1 w => ⟨m', by omega, w⟩, ?_⟩
      refine sq_go (go_skip L1 (te_var rfl) fun H2 k2 L2 => ?_)
      refine asg1_un (tup_un (cons_un (Te.go te_c (cons_un (Te.go (te_var rfl) (cons_un (go_rd (te_var rfl) L2 ib hs fun v3 H3 k3 L3 r3 => ?_)))))))
      refine ⟨by show 3 ≤ sizeLine; decide, fun u hu => ?_⟩
      refine ⟨.ref u, .two "and" a b, p2, rfl, (k1.trans (k2.trans k3)).trans (Kept.of (Same.upd hu)), L3.same (Same.upd hu), rp_tup hu (L3.nCL hu) (by show 3 ≤ 100000; decide) ⟨_, _, rfl, rfl, _, _, rfl, Rp.mono (k2.trans k3).kl rv, _, _, rfl, r3, rfl⟩, hr'⟩
  · have ht := of_decide_eq_false ht
    cases c with
    | nil f hn => exact ret_te (te_var rfl) (kQ _ _ k1 L1 rv)
    | cons f hm hs hr' =>
      have : tx X.ts p1 = "and" := by
        have := List.mem_singleton.mp hm
        exact (Prod.mk.inj this).1
      exact absurd (by rw [this]) ht
theorem f_sum {R : Tx → Rl} (DT : DcT K w A) (T : Txt K mg A) (hk : 6 ≤ k) (h : FnOk P w K mg base CX0 k A.a__read_product A.d__read_product ["line"] (spRd K A R)) : FnOk P w K mg base CX0 (k + 1) A.a__read_sum A.d__read_sum ["line"] (spRd K A fun X => Lft X opSum (R X)) := by
  refine T.F__read_sum.ok (k := k) sc_read_sum (fun ws H Q E ⟨_, _, _, _, _, _, e, _⟩ => by rw [e]; rfl) (fun cdv A' outer s H ws Q E hr h' => ?_)
  obtain ⟨p, X, pl, mo, e, q, rfl, L, ib, ⟨n, a, p1, r1, c⟩, kQ⟩ := h'
  refine ⟨_, pss_cons (ps_set (i := 1) sc_read_sum.nd rfl (Or.inl rfl) (pe_call h (hr.mono (by omega)) rfl T.g__read_product T.F__read_product.kp T.b__read_product .nil pass0 (pa_cons (pv 0) pa_nil)))
  (pss_cons (ps_while PassesOwn.never (pt_cmpR op_inKd (pe_meth0 (pv 0) T.cl_Line T.m_Line_text (ok_Line_text T) (hr.mono (by omega)) (bd_Line_text_0 T).choose_spec.2 (bd_Line_text_0 T).choose_spec.1 pass0) (pe_glob (v := .ref A.a_SUMS) rfl T.g_SUMS rfl) (by rfl))
  (pss_cons (ps_set (i := 2) sc_read_sum.nd rfl (Or.inl rfl) (pe_ix ix_kdict (pe_glob (v := .ref A.a_SUMS) rfl T.g_SUMS rfl) (pe_meth0 (pv 0) T.cl_Line T.m_Line_text (ok_Line_text T) (hr.mono (by omega)) (bd_Line_text_0 T).choose_spec.2 (bd_Line_text_0 T).choose_spec.1 pass0) (fun _ _ => rfl)))
  (pss_cons (ps_expr (pe_meth0 (pv 0) T.cl_Line T.m_Line_skip (ok_Line_skip T) (hr.mono (by omega)) T.b_Line_skip .nil pass0))
  (pss_one (ps_set (i := 1) sc_read_sum.nd rfl (Or.inl rfl) (pe_tup (pa_cons (pv 2) (pa_cons (pv 1) (pa_cons (pe_call h (hr.mono (by omega)) rfl T.g__read_product T.F__read_product.kp T.b__read_product .nil pass0 (pa_cons (pv 0) pa_nil)) pa_nil)))))))))
  (pss_one (ps_ret (pv 1)))), ?_⟩
  refine asg_un (go_rd (te_var rfl) L ib r1 fun v H1 k1 L1 rv => ?_)
  refine set_sl (σ' := [some (.ref p.self), some v, none]) rfl ?_
  refine ⟨fun m σ H' => ∃ (v : V) (v2 : Option V) (a : Ex) (p1 : Nat), σ = [some (.ref p.self), some v, v2] ∧ Kept (CL A p) H H' ∧ LnAt A H' p X.ts X.cs X.vs p1 mo ∧ Rp K (kl (CL A p) H') a.d [v] ∧ Chain X opSum (R X) mo m a p1 e q, ⟨n, v, none, a, p1, rfl, k1, L1, rv, c⟩, ?_⟩
  rintro m σ H' ⟨v, v2, a, p1, rfl, k1, L1, rv, c⟩
  have f : tx X.ts p1 ∈ fol := by cases c <;> assumption
  obtain ⟨b, hb, hi⟩ := DT.sh _ f
  refine Tt.go (tt_test (te_inKd (te_text L1 (te_var rfl)) hb)) (ite3 (fun ht => ?_) fun ht => ?_)
  · cases c with
    | nil f hn =>
      obtain ⟨u, hu⟩ := hi.mp ht
      exact absurd hu (hn u)
    | @cons m' _ b _ u _ p2 _ f hm hs hr' =>
      refine ⟨fun σ' H1 => ∃ (v : V) (v2 : Option V) (a : Ex) (p1 : Nat), σ' = [some (.ref p.self), some v, v2] ∧ Kept (CL A p) H H1 ∧ LnAt A H1 p X.ts X.cs X.vs p1 mo ∧ Rp K (kl (CL A p) H1) a.d [v] ∧ Chain X opSum (R X) mo m' a p1 e q, fun σ' H1 w => ⟨m', by omega, w⟩, ?_⟩
      refine asg_te (te_kdict (te_text L1 (te_var rfl)) (DT.sd _ _ hm)) ?_
      refine set_sl (σ' := [some (.ref p.self), some v, some (.str u)]) rfl ?_
      refine sq_go (go_skip L1 (te_var rfl) fun H2 k2 L2 => ?_)
      refine asg1_un (tup_un (cons_un (Te.go (te_var rfl) (cons_un (Te.go (te_var rfl) (cons_un (go_rd (te_var rfl) L2 ib hs fun v3 H3 k3 L3 r3 => ?_)))))))
      refine ⟨by show 3 ≤ sizeLine; decide, fun x hx => ?_⟩
      refine ⟨.ref x, some (.str u), .two u a b, p2, rfl, (k1.trans (k2.trans k3)).trans (Kept.of (Same.upd hx)), L3.same (Same.upd hx), rp_tup hx (L3.nCL hx) (by show 3 ≤ 100000; decide) ⟨_, _, rfl, rfl, _, _, rfl, Rp.mono (k2.trans k3).kl rv, _, _, rfl, r3, rfl⟩, hr'⟩
  · cases c with
    | nil f hn => exact ret_te (te_var rfl) (kQ _ _ k1 L1 rv)
    | cons f hm hs hr' =>
      have := hi.mpr ⟨_, hm⟩
      rw [ht] at this
      cases this
theorem f_product {R : Tx → Rl} (DT : DcT K w A) (T : Txt K mg A) (hk : 6 ≤ k) (h : FnOk P w K mg base CX0 k A.a__read_sign A.d__read_sign ["line"] (spRd K A R)) : FnOk P w K mg base CX0 (k + 1) A.a__read_product A.d__read_product ["line"] (spRd K A fun X => Lft X opPrd (R X)) := by
  refine T.F__read_product.ok (k := k) sc_read_product (fun ws H Q E ⟨_, _, _, _, _, _, e, _⟩ => by rw [e]; rfl) (fun cdv A' outer s H ws Q E hr h' => ?_)
  obtain ⟨p, X, pl, mo, e, q, rfl, L, ib, ⟨n, a, p1, r1, c⟩, kQ⟩ := h'
  refine ⟨_, pss_cons (ps_set (i := 1) sc_read_product.nd rfl (Or.inl rfl) (pe_call h (hr.mono (by omega)) rfl T.g__read_sign T.F__read_sign.kp T.b__read_sign .nil pass0 (pa_cons (pv 0) pa_nil)))
  (pss_cons (ps_while PassesOwn.never (pt_cmpR op_inKd (pe_meth0 (pv 0) T.cl_Line T.m_Line_text (ok_Line_text T) (hr.mono (by omega)) (bd_Line_text_0 T).choose_spec.2 (bd_Line_text_0 T).choose_spec.1 pass0) (pe_glob (v := .ref A.a_PRODUCTS) rfl T.g_PRODUCTS rfl) (by rfl))
  (pss_cons (ps_set (i := 2) sc_read_product.nd rfl (Or.inl rfl) (pe_ix ix_kdict (pe_glob (v := .ref A.a_PRODUCTS) rfl T.g_PRODUCTS rfl) (pe_meth0 (pv 0) T.cl_Line T.m_Line_text (ok_Line_text T) (hr.mono (by omega)) (bd_Line_text_0 T).choose_spec.2 (bd_Line_text_0 T).choose_spec.1 pass0) (fun _ _ => rfl)))
  (pss_cons (ps_expr (pe_meth0 (pv 0) T.cl_Line T.m_Line_skip (ok_Line_skip T) (hr.mono (by omega)) T.b_Line_skip .nil pass0))
  (pss_one (ps_set (i := 1) sc_read_product.nd rfl (Or.inl rfl) (pe_tup (pa_cons (pv 2) (pa_cons (pv 1) (pa_cons (pe_call h (hr.mono (by omega)) rfl T.g__read_sign T.F__read_sign.kp T.b__read_sign .nil pass0 (pa_cons (pv 0) pa_nil)) pa_nil)))))))))
  (pss_one (ps_ret (pv 1)))), ?_⟩
  refine asg_un (go_rd (te_var rfl) L ib r1 fun v H1 k1 L1 rv => ?_)
  refine set_sl (σ' := [some (.ref p.self), some v, none]) rfl ?_
  refine ⟨fun m σ H' => ∃ (v : V) (v2 : Option V) (a : Ex) (p1 : Nat), σ = [some (.ref p.self), some v, v2] ∧ Kept (CL A p) H H' ∧ LnAt A H' p X.ts X.cs X.vs p1 mo ∧ Rp K (kl (CL A p) H') a.d [v] ∧ Chain X opPrd (R X) mo m a p1 e q, ⟨n, v, none, a, p1, rfl, k1, L1, rv, c⟩, ?_⟩
  rintro m σ H' ⟨v, v2, a, p1, rfl, k1, L1, rv, c⟩
  have f : tx X.ts p1 ∈ fol := by cases c <;> assumption
  obtain ⟨b, hb, hi⟩ := DT.ph _ f
  refine Tt.go (tt_test (te_inKd (te_text L1 (te_var rfl)) hb)) (ite3 (fun ht => ?_) fun ht => ?_)
  · cases c with
    | nil f hn =>
      obtain ⟨u, hu⟩ := hi.mp ht
      exact absurd hu (hn u)
    | @cons m' _ b _ u _ p2 _ f hm hs hr' =>
      refine ⟨fun σ' H1 => ∃ (v : V) (v2 : Option V) (a : Ex) (p1 : Nat), σ' = [some (.ref p.self), some v, v2] ∧ Kept (CL A p) H H1 ∧ LnAt A H1 p X.ts X.cs X.vs p1 mo ∧ Rp K (kl (CL A p) H1) a.d [v] ∧ Chain X opPrd (R X) mo m' a p1 e q, fun σ' H1 w => ⟨m', by omega, w⟩, ?_⟩
      refine asg_te (te_kdict (te_text L1 (te_var rfl)) (DT.pd _ _ hm)) ?_
      refine set_sl (σ' := [some (.ref p.self), some v, some (.str u)]) rfl ?_
      refine sq_go (go_skip L1 (te_var rfl) fun H2 k2 L2 => ?_)
      refine asg1_un (tup_un (cons_un (Te.go (te_var rfl) (cons_un (Te.go (te_var rfl) (cons_un (go_rd (te_var rfl) L2 ib hs fun v3 H3 k3 L3 r3 => ?_)))))))
      refine ⟨by show 3 ≤ sizeLine; decide, fun x hx => ?_⟩
      refine ⟨.ref x, some (.str u), .two u a b, p2, rfl, (k1.trans (k2.trans k3)).trans (Kept.of (Same.upd hx)), L3.same (Same.upd hx), rp_tup hx (L3.nCL hx) (by show 3 ≤ 100000; decide) ⟨_, _, rfl, rfl, _, _, rfl, Rp.mono (k2.trans k3).kl rv, _, _, rfl, r3, rfl⟩, hr'⟩
  · cases c with
    | nil f hn => exact ret_te (te_var rfl) (kQ _ _ k1 L1 rv)
    | cons f hm hs hr' =>
      have := hi.mpr ⟨_, hm⟩
      rw [ht] at this
      cases this
end
end K01

namespace K01
open PySem L2 YF YG
section
variable {P : Program} {w : World} {K : PySem.W.Frag} {mg : Str → Option Value} {base : Heap} {A : Adr} {k : Nat}
theorem go_begin {E : XK} {to : TE} {σ : L2.St} {H : Hp} {p : PlL} {ts : List Tk} {cs vs : List Str} {pl mo : Nat} {Q : VK} (L : LnAt A H p ts cs vs pl mo) (hp : Te to σ H (.ref p.self)) (l : mo + 1 ≤ 20) (k : ∀ H', Kept (CL A p) H H' → LnAt A H' p ts cs vs (pl + 1) (mo + 1) → Q .non H') : tMeth A.a_Line "begin_part" (spBegin A) [] E to tNil σ H Q :=
  meth_go hp L.ob rfl ta_nil ⟨p, ts, cs, vs, pl, mo, rfl, L, l, k⟩
theorem go_end {E : XK} {to : TE} {σ : L2.St} {H : Hp} {p : PlL} {ts : List Tk} {cs vs : List Str} {pl mo : Nat} {Q : VK} (L : LnAt A H p ts cs vs pl (mo + 1)) (hp : Te to σ H (.ref p.self)) (k : ∀ H', Kept (CL A p) H H' → LnAt A H' p ts cs vs pl mo → Q .non H') : tMeth A.a_Line "end_part" (spEndP A) [] E to tNil σ H Q :=
  meth_go hp L.ob rfl ta_nil ⟨p, ts, cs, vs, pl, mo, rfl, L, k⟩
theorem f_not {R R2 : Tx → Rl} (T : Txt K mg A) (hk : 6 ≤ k) (h : FnOk P w K mg base CX0 k A.a__read_comparison A.d__read_comparison ["line"] (spRd K A R)) (h2 : FnOk P w K mg base CX0 k A.a__read_not A.d__read_not ["line"] (spRd K A R2)) : FnOk P w K mg base CX0 (k + 1) A.a__read_not A.d__read_not ["line"] (spRd K A fun X => Ntt X (R2 X) (R X)) := by
  refine T.F__read_not.ok (k := k) sc_read_not (fun ws H Q E ⟨_, _, _, _, _, _, e, _⟩ => by rw [e]; rfl) (fun cdv A' outer s H ws Q E hr h' => ?_)
  obtain ⟨p, X, pl, mo, e, q, rfl, L, ib, r, kQ⟩ := h'
  refine ⟨_, pss_cons (ps_if (pt_cmpR op_ne (pe_meth0 (pv 0) T.cl_Line T.m_Line_text (ok_Line_text T) (hr.mono (by omega)) (bd_Line_text_0 T).choose_spec.2 (bd_Line_text_0 T).choose_spec.1 pass0) (pe_str) (nomark _))
  (pss_one (ps_ret (pe_call h (hr.mono (by omega)) rfl T.g__read_comparison T.F__read_comparison.kp T.b__read_comparison .nil pass0 (pa_cons (pv 0) pa_nil))))
  (pss_nil))
  (pss_cons (ps_expr (pe_meth0 (pv 0) T.cl_Line T.m_Line_begin_part (ok_Line_begin_part T) (hr.mono (by omega)) T.b_Line_begin_part .nil pass0))
  (pss_cons (ps_set (i := 1) sc_read_not.nd rfl (Or.inl rfl) (pe_call h2 (hr.mono (by omega)) rfl T.g__read_not T.F__read_not.kp T.b__read_not .nil pass0 (pa_cons (pv 0) pa_nil)))
  (pss_cons (ps_expr (pe_meth0 (pv 0) T.cl_Line T.m_Line_end_part (ok_Line_end_part T) (hr.mono (by omega)) T.b_Line_end_part .nil pass0))
  (pss_one (ps_ret (pe_tup (pa_cons (pe_str) (pa_cons (pv 1) pa_nil)))))))), ?_⟩
  refine if_seq (tt_test (te_ne (te_text L (te_var rfl)) te_c rfl)) (fun ht => ?_) fun ht => ?_
  · rcases r with ⟨_, r⟩ | ⟨r, _⟩
    · exact ret_un (go_rd (te_var rfl) L ib r kQ)
    · rw [r] at ht
      simp at ht
  · rcases r with ⟨r, _⟩ | ⟨r, l, a, ra, rfl⟩
    · refine absurd ?_ r
      simpa using ht
    · refine sq_go (drop_un (go_begin L (te_var rfl) l fun H1 k1 L1 => ?_))
      refine asg_un (go_rd (te_var rfl) L1 ib ra fun v H2 k2 L2 rv => ?_)
      refine set_sl (σ' := [some (.ref p.self), some v]) rfl ?_
      refine sq_go (drop_un (go_end L2 (te_var rfl) fun H3 k3 L3 => ?_))
      refine ret_un (tup_un ((ta_cons te_c (ta_cons (te_var rfl) ta_nil)) _ ⟨by show 2 ≤ sizeLine; decide, fun u hu => ?_⟩))
      exact (kQ.trans (k1.trans (k2.trans k3))).tup L3 hu (by show 2 ≤ 100000; decide) rfl ⟨_, _, rfl, rfl, _, _, rfl, Rp.mono k3.kl rv, rfl⟩
theorem f_sign {R R2 : Tx → Rl} (T : Txt K mg A) (hk : 6 ≤ k) (h : FnOk P w K mg base CX0 k A.a__read_atom A.d__read_atom ["line"] (spRd K A R)) (h2 : FnOk P w K mg base CX0 k A.a__read_sign A.d__read_sign ["line"] (spRd K A R2)) : FnOk P w K mg base CX0 (k + 1) A.a__read_sign A.d__read_sign ["line"] (spRd K A fun X => Sgn X (R2 X) (R X)) := by
  refine T.F__read_sign.ok (k := k) sc_read_sign (fun ws H Q E ⟨_, _, _, _, _, _, e, _⟩ => by rw [e]; rfl) (fun cdv A' outer s H ws Q E hr h' => ?_)
  obtain ⟨p, X, pl, mo, e, q, rfl, L, ib, r, kQ⟩ := h'
  refine ⟨_, pss_cons (ps_if (pt_cmpR op_ne (pe_meth0 (pv 0) T.cl_Line T.m_Line_text (ok_Line_text T) (hr.mono (by omega)) (bd_Line_text_0 T).choose_spec.2 (bd_Line_text_0 T).choose_spec.1 pass0) (pe_str) (nomark _))
  (pss_one (ps_ret (pe_call h (hr.mono (by omega)) rfl T.g__read_atom T.F__read_atom.kp T.b__read_atom .nil pass0 (pa_cons (pv 0) pa_nil))))
  (pss_nil))
  (pss_cons (ps_if (pt_val (pe_meth (pv 0) T.cl_Line T.m_Line_is_number (ok_Line_is_number T) (hr.mono (by omega)) (bd_Line_is_number_1 T).choose_spec.2 (bd_Line_is_number_1 T).choose_spec.1 pass0 (pa_cons (pe_int) pa_nil)))
  (pss_one (ps_ret (pe_tup (pa_cons (pe_str) (pa_cons (pe_meth0 (pv 0) T.cl_Line T.m_Line_take_integer (ok_Line_take_integer T) (hr.mono (by omega)) T.b_Line_take_integer .nil pass0) pa_nil)))))
  (pss_nil))
  (pss_cons (ps_expr (pe_meth0 (pv 0) T.cl_Line T.m_Line_begin_part (ok_Line_begin_part T) (hr.mono (by omega)) T.b_Line_begin_part .nil pass0))
  (pss_cons (ps_set (i := 1) sc_read_sign.nd rfl (Or.inl rfl) (pe_call h2 (hr.mono (by omega)) rfl T.g__read_sign T.F__read_sign.kp T.b__read_sign .nil pass0 (pa_cons (pv 0) pa_nil)))
  (pss_cons (ps_expr (pe_meth0 (pv 0) T.cl_Line T.m_Line_end_part (ok_Line_end_part T) (hr.mono (by omega)) T.b_Line_end_part .nil pass0))
  (pss_one (ps_ret (pe_tup (pa_cons (pe_str) (pa_cons (pv 1) pa_nil))))))))), ?_⟩
  refine if_seq (tt_test (te_ne (te_text L (te_var rfl)) te_c rfl)) (fun ht => ?_) fun ht => ?_
  · have ht : tx X.ts pl ≠ "-" := by simpa using ht
    rcases r with ⟨_, r⟩ | ⟨r, _⟩ | ⟨r, _⟩
    · exact ret_un (go_rd (te_var rfl) L ib r kQ)
    · exact absurd r ht
    · exact absurd r ht
  · have ht : tx X.ts pl = "-" := by simpa using ht
    refine if_seq (tt_test (te_isN1 L (te_var rfl))) (fun h1 => ?_) fun h1 => ?_
    · rcases r with ⟨r, _⟩ | ⟨_, m, ⟨n1, n2, n3⟩, rfl, rfl⟩ | ⟨_, r, _⟩
      · exact absurd ht r
      · refine ret_un (tup_un (cons_un (Te.go te_c (cons_un (meth_go (te_var rfl) L.ob rfl ta_nil ⟨p, X.ts, X.cs, X.vs, pl, mo, pl + 2, -m, rfl, L, .inr ⟨ht, n1, n2, by rw [Int.neg_neg]; exact n3, rfl⟩, fun H1 k1 L1 => ?_⟩)))))
        refine ⟨by show 2 ≤ sizeLine; decide, fun u hu => ?_⟩
        exact (kQ.trans k1).tup L1 hu (by show 2 ≤ 100000; decide) rfl ⟨_, _, rfl, rfl, _, _, rfl, rfl, rfl⟩
      · rw [r] at h1
        cases h1
    · rcases r with ⟨r, _⟩ | ⟨_, m, ⟨n1, _⟩, _⟩ | ⟨_, _, l, a, ra, rfl⟩
      · exact absurd ht r
      · rw [n1] at h1
        cases h1
      · refine sq_go (drop_un (go_begin L (te_var rfl) l fun H1 k1 L1 => ?_))
        refine asg_un (go_rd (te_var rfl) L1 ib ra fun v H2 k2 L2 rv => ?_)
        refine set_sl (σ' := [some (.ref p.self), some v]) rfl ?_
        refine sq_go (drop_un (go_end L2 (te_var rfl) fun H3 k3 L3 => ?_))
        refine ret_un (tup_un ((ta_cons te_c (ta_cons (te_var rfl) ta_nil)) _ ⟨by show 2 ≤ sizeLine; decide, fun u hu => ?_⟩))
        exact (kQ.trans (k1.trans (k2.trans k3))).tup L3 hu (by show 2 ≤ 100000; decide) rfl ⟨_, _, rfl, rfl, _, _, rfl, Rp.mono k3.kl rv, rfl⟩
theorem f_parentheses {R : Tx → Rl} (T : Txt K mg A) (hk : 6 ≤ k) (h : FnOk P w K mg base CX0 k A.a_read_expression A.d_read_expression ["line"] (spRd K A R)) : FnOk P w K mg base CX0 (k + 1) A.a__read_parentheses A.d__read_parentheses ["line"] (spRd K A fun X => Prn X (R X)) := by
  refine T.F__read_parentheses.ok (k := k) sc_read_parentheses (fun ws H Q E ⟨_, _, _, _, _, _, e, _⟩ => by rw [e]; rfl) (fun cdv A' outer s H ws Q E hr h' => ?_)
  obtain ⟨p, X, pl, mo, e, q, rfl, L, ib, ⟨l, p1, r, tp, rfl⟩, kQ⟩ := h'
  refine ⟨_, pss_cons (ps_expr (pe_meth0 (pv 0) T.cl_Line T.m_Line_begin_part (ok_Line_begin_part T) (hr.mono (by omega)) T.b_Line_begin_part .nil pass0))
  (pss_cons (ps_set (i := 1) sc_read_parentheses.nd rfl (Or.inl rfl) (pe_call h (hr.mono (by omega)) rfl T.g_read_expression T.F_read_expression.kp T.b_read_expression .nil pass0 (pa_cons (pv 0) pa_nil)))
  (pss_cons (ps_expr (pe_meth (pv 0) T.cl_Line T.m_Line_take (ok_Line_take T) (hr.mono (by omega)) T.b_Line_take .nil pass0 (pa_cons (pe_str) pa_nil)))
  (pss_cons (ps_expr (pe_meth0 (pv 0) T.cl_Line T.m_Line_end_part (ok_Line_end_part T) (hr.mono (by omega)) T.b_Line_end_part .nil pass0))
  (pss_one (ps_ret (pv 1)))))), ?_⟩
  refine sq_go (drop_un (go_begin L (te_var rfl) l fun H1 k1 L1 => ?_))
  refine asg_un (go_rd (te_var rfl) L1 ib r fun v H2 k2 L2 rv => ?_)
  refine set_sl (σ' := [some (.ref p.self), some v]) rfl ?_
  refine sq_go (drop_un (meth_go (te_var rfl) L2.ob rfl (ta_cons te_c ta_nil) ⟨p, X.ts, X.cs, X.vs, p1, mo + 1, ")", rfl, L2, tp, fun H3 k3 L3 => ?_⟩))
  refine sq_go (drop_un (go_end L3 (te_var rfl) fun H4 k4 L4 => ?_))
  exact ret_te (te_var rfl) (kQ v H4 (k1.trans (k2.trans (k3.trans k4))) L4 (Rp.mono (k3.trans k4).kl rv))
theorem f_index {R : Tx → Rl} (T : Txt K mg A) (hk : 6 ≤ k) (h : FnOk P w K mg base CX0 k A.a__read_parentheses A.d__read_parentheses ["line"] (spRd K A R)) : FnOk P w K mg base CX0 (k + 1) A.a_read_index A.d_read_index ["line"] (spRd K A fun X => Idx X (R X)) := by
  refine T.F_read_index.ok (k := k) sc_read_index (fun ws H Q E ⟨_, _, _, _, _, _, e, _⟩ => by rw [e]; rfl) (fun cdv A' outer s H ws Q E hr h' => ?_)
  obtain ⟨p, X, pl, mo, e, q, rfl, L, ib, r, kQ⟩ := h'
  refine ⟨_, pss_cons (ps_if (pt_cmpR op_eq (pe_meth0 (pv 0) T.cl_Line T.m_Line_text (ok_Line_text T) (hr.mono (by omega)) (bd_Line_text_0 T).choose_spec.2 (bd_Line_text_0 T).choose_spec.1 pass0) (pe_str) (nomark _))
  (pss_one (ps_ret (pe_call h (hr.mono (by omega)) rfl T.g__read_parentheses T.F__read_parentheses.kp T.b__read_parentheses .nil pass0 (pa_cons (pv 0) pa_nil))))
  (pss_nil))
  (pss_one (ps_ret (pe_tup (pa_cons (pe_str) (pa_cons (pe_int) pa_nil))))), ?_⟩
  refine if_seq (tt_test (te_eq (te_text L (te_var rfl)) te_c rfl)) (fun ht => ?_) fun ht => ?_
  · have ht := V.str.inj (of_decide_eq_true ht)
    rcases r with ⟨_, r⟩ | ⟨r, _⟩
    · exact ret_un (go_rd (te_var rfl) L ib r kQ)
    · exact absurd ht r
  · have ht := of_decide_eq_false ht
    rcases r with ⟨r, _⟩ | ⟨_, rfl, rfl⟩
    · exact absurd (by rw [r]) ht
    · refine ret_un (tup_un ((ta_cons te_c (ta_cons te_c ta_nil)) _ ⟨by show 2 ≤ sizeLine; decide, fun u hu => ?_⟩))
      exact kQ.tup L hu (by show 2 ≤ 100000; decide) rfl ⟨_, _, rfl, rfl, _, _, rfl, rfl, rfl⟩
theorem f_comparison {R : Tx → Rl} (DT : DcT K w A) (T : Txt K mg A) (hk : 6 ≤ k) (h : FnOk P w K mg base CX0 k A.a__read_sum A.d__read_sum ["line"] (spRd K A R)) : FnOk P w K mg base CX0 (k + 1) A.a__read_comparison A.d__read_comparison ["line"] (spRd K A fun X => Cmp X (R X)) := by
  refine T.F__read_comparison.ok (k := k) sc_read_comparison (fun ws H Q E ⟨_, _, _, _, _, _, e, _⟩ => by rw [e]; rfl) (fun cdv A' outer s H ws Q E hr h' => ?_)
  obtain ⟨p, X, pl, mo, e, q, rfl, L, ib, ⟨a, p1, r1, f, r⟩, kQ⟩ := h'
  refine ⟨_, pss_cons (ps_set (i := 1) sc_read_comparison.nd rfl (Or.inl rfl) (pe_call h (hr.mono (by omega)) rfl T.g__read_sum T.F__read_sum.kp T.b__read_sum .nil pass0 (pa_cons (pv 0) pa_nil)))
  (pss_cons (ps_set (i := 2) sc_read_comparison.nd rfl (Or.inl rfl) (pe_meth0 (pv 0) T.cl_Line T.m_Line_text (ok_Line_text T) (hr.mono (by omega)) (bd_Line_text_0 T).choose_spec.2 (bd_Line_text_0 T).choose_spec.1 pass0))
  (pss_cons (ps_if (pt_cmpR op_notInKd (pv 2) (pe_glob (v := .ref A.a_COMPARISONS) rfl T.g_COMPARISONS rfl) (by rfl))
  (pss_one (ps_ret (pv 1)))
  (pss_nil))
  (pss_cons (ps_expr (pe_meth0 (pv 0) T.cl_Line T.m_Line_skip (ok_Line_skip T) (hr.mono (by omega)) T.b_Line_skip .nil pass0))
  (pss_cons (ps_set (i := 3) sc_read_comparison.nd rfl (Or.inl rfl) (pe_call h (hr.mono (by omega)) rfl T.g__read_sum T.F__read_sum.kp T.b__read_sum .nil pass0 (pa_cons (pv 0) pa_nil)))
  (C8.pss_cut (ps_if (PW.pt (pw_or (pt_cmpR op_eq (pv 2) (pe_str) (nomark _)) (pw_or1 (pt_cmpR op_eq (pv 2) (pe_str) (nomark _)))))
  (pss_one (ps_par (i := 1) (j := 3) rfl sc_read_comparison.nd rfl rfl (by decide) (by rfl) (by rfl) (pa_cons (pv 3) (pa_cons (pv 1) pa_nil)) (by rfl) (by rfl)))
  (pss_nil))
  (pss_one (ps_ret (pe_tup (pa_cons (pe_ix ix_kdict (pe_glob (v := .ref A.a_COMPARISONS) rfl T.g_COMPARISONS rfl) (pv 2) (fun _ _ => rfl)) (pa_cons (pv 1) (pa_cons (pv 3) pa_nil))))))))))), ?_⟩
  refine asg_un (go_rd (te_var rfl) L ib r1 fun v H1 k1 L1 rv => ?_)
  refine set_sl (σ' := [some (.ref p.self), some v, none, none]) rfl ?_
  refine asg_te (te_text L1 (te_var rfl)) ?_
  refine set_sl (σ' := [some (.ref p.self), some v, some (.str (tx X.ts p1)), none]) rfl ?_
  obtain ⟨b, hb, hi⟩ := DT.ch _ f
  refine if_seq (tt_test (te_notInKd (te_var rfl) hb)) (fun ht => ?_) fun ht => ?_
  · have ht : b = false := by simpa using ht
    rcases r with ⟨_, rfl, rfl⟩ | ⟨u, b', hu, _⟩
    · exact ret_te (te_var rfl) (kQ _ _ k1 L1 rv)
    · have := hi.mpr ⟨u, hu⟩
      rw [ht] at this
      cases this
  · have ht : b = true := by simpa using ht
    rcases r with ⟨hn, _⟩ | ⟨u, b', hu, rb, rfl⟩
    · obtain ⟨u, hu⟩ := hi.mp ht
      exact absurd hu (hn u)
    · refine sq_go (drop_un (go_skip L1 (te_var rfl) fun H2 k2 L2 => ?_))
      refine asg_un (go_rd (te_var rfl) L2 ib rb fun v3 H3 k3 L3 r3 => ?_)
      refine set_sl (σ' := [some (.ref p.self), some v, some (.str (tx X.ts p1)), some v3]) rfl ?_
      have rv3 : Rp K (kl (CL A p) H3) a.d [v] := Rp.mono (k2.trans k3).kl rv
      have fin : ∀ (x y : V) (ex ey : Ex) (H4 : Hp), Same H3 H4 → Rp K (kl (CL A p) H4) ex.d [x] → Rp K (kl (CL A p) H4) ey.d [y] → (if swp (tx X.ts p1) = true then Ex.two u b' a else .two u a b') = .two u ex ey →
          tRet (tTup (tCons (tOp (rIxD K w) (tC (.ref A.a_COMPARISONS)) (tVar 2)) (tCons (tVar 1) (tCons (tVar 3) tNil)))) { nx := fun x H' => Q V.non H', rt := Q } [some (.ref p.self), some x, some (.str (tx X.ts p1)), some y] H4 := fun x y ex ey H4 s4 rx ry ee => by
        refine ret_un (tup_un ((ta_cons (te_kdict (te_var rfl) (DT.cd _ _ hu)) (ta_cons (te_var rfl) (ta_cons (te_var rfl) ta_nil))) _ ⟨by show 3 ≤ sizeLine; decide, fun z hz => ?_⟩))
        rw [ee] at kQ
        exact (kQ.trans (k1.trans (k2.trans (k3.trans (Kept.of s4))))).tup (L3.same s4) hz (by show 3 ≤ 100000; decide) rfl ⟨_, _, rfl, rfl, _, _, rfl, rx, _, _, rfl, ry, rfl⟩
      refine cut_sq (if_seq (tt_or (tt_test (te_eq (te_var rfl) te_c rfl)) fun _ => tt_test (te_eq (te_var rfl) te_c rfl)) (fun hs => ?_) fun hs => ?_)
      · have sw : swp (tx X.ts p1) = true := by
          unfold swp
          simpa using hs
        exact (ta_cons (te_var rfl) (ta_cons (te_var rfl) ta_nil)) _ ⟨_, _, rfl, fin v3 v b' a H3 (fun _ _ h => h) r3 rv3 (if_pos sw)⟩
      · have sw : swp (tx X.ts p1) = false := by
          unfold swp
          simpa using hs
        exact fin v v3 a b' H3 (fun _ _ h => h) rv3 r3 (if_neg (by rw [sw]; exact Bool.false_ne_true))
theorem f_atom {R : Tx → Rl} (TB : GxR.TabB base mg A.c_is_name A.t_is_name) (T : Txt K mg A) (hk : 6 ≤ k) (h : FnOk P w K mg base CX0 k A.a__read_parentheses A.d__read_parentheses ["line"] (spRd K A R)) (h2 : FnOk P w K mg base CX0 (k + 1) A.a_read_index A.d_read_index ["line"] (spRd K A fun X => Idx X (R X))) : FnOk P w K mg base CX0 (k + 2) A.a__read_atom A.d__read_atom ["line"] (spRd K A fun X => Atm X (R X)) := by
  refine T.F__read_atom.ok (k := k + 1) sc_read_atom (fun ws H Q E ⟨_, _, _, _, _, _, e, _⟩ => by rw [e]; rfl) (fun cdv A' outer s H ws Q E hr h' => ?_)
  obtain ⟨p, X, pl, mo, e, q, rfl, L, ib, r, kQ⟩ := h'
  refine ⟨_, pss_cons (ps_if (pt_val (pe_meth0 (pv 0) T.cl_Line T.m_Line_is_number (ok_Line_is_number T) (hr.mono (by omega)) (bd_Line_is_number_0 T).choose_spec.2 (bd_Line_is_number_0 T).choose_spec.1 pass0))
  (pss_one (ps_ret (pe_tup (pa_cons (pe_str) (pa_cons (pe_meth0 (pv 0) T.cl_Line T.m_Line_take_number (ok_Line_take_number T) (hr.mono (by omega)) T.b_Line_take_number .nil pass0) pa_nil)))))
  (pss_nil))
  (pss_cons (ps_if (pt_cmpR op_eq (pe_meth0 (pv 0) T.cl_Line T.m_Line_text (ok_Line_text T) (hr.mono (by omega)) (bd_Line_text_0 T).choose_spec.2 (bd_Line_text_0 T).choose_spec.1 pass0) (pe_str) (nomark _))
  (pss_one (ps_ret (pe_call h (hr.mono (by omega)) rfl T.g__read_parentheses T.F__read_parentheses.kp T.b__read_parentheses .nil pass0 (pa_cons (pv 0) pa_nil))))
  (pss_nil))
  (pss_cons (ps_set (i := 1) sc_read_atom.nd rfl (Or.inl rfl) (pe_meth0 (pv 0) T.cl_Line T.m_Line_near_known_name (ok_Line_near_known_name TB T) (hr.mono (by omega)) T.b_Line_near_known_name .nil pass0))
  (pss_cons (ps_if (pt_cmp (pc_din (hu_of hr) (pv 1) (pe_fld (pv 0) rfl)))
  (C8.pss_cut (ps_if (pt_cmpR op_eq (pe_meth (pv 0) T.cl_Line T.m_Line_text (ok_Line_text T) (hr.mono (by omega)) (bd_Line_text_1 T).choose_spec.2 (bd_Line_text_1 T).choose_spec.1 pass0 (pa_cons (pe_int) pa_nil)) (pe_str) (nomark _))
  (pss_one (ps_dead))
  (pss_nil))
  (pss_cons (ps_expr (pe_meth0 (pv 0) T.cl_Line T.m_Line_skip (ok_Line_skip T) (hr.mono (by omega)) T.b_Line_skip .nil pass0))
  (pss_one (ps_ret (pe_tup (pa_cons (pe_str) (pa_cons (pv 1) pa_nil)))))))
  (pss_nil))
  (C8.pss_cut (ps_if (pt_not (pt_val (pe_fld (pv 0) rfl)))
  (pss_one (ps_dead))
  (pss_nil))
  (pss_cons (ps_expr (pe_meth0 (pv 0) T.cl_Line T.m_Line_skip (ok_Line_skip T) (hr.mono (by omega)) T.b_Line_skip .nil pass0))
  (pss_one (ps_ret (pe_tup (pa_cons (pe_str) (pa_cons (pv 1) (pa_cons (pe_call h2 (hr.mono (by omega)) rfl T.g_read_index T.F_read_index.kp T.b_read_index .nil pass0 (pa_cons (pv 0) pa_nil)) pa_nil))))))))))), ?_⟩
  refine if_seq (tt_test (te_isN L (te_var rfl))) (fun hn => ?_) fun hn => ?_
  · rcases r with ⟨m, ⟨n1, n2, n3⟩, rfl, rfl⟩ | ⟨r, _⟩ | ⟨r, _⟩ | ⟨r, _⟩
    · refine ret_un (tup_un (cons_un (Te.go te_c (cons_un (meth_go (te_var rfl) L.ob rfl ta_nil ⟨p, X.ts, X.cs, X.vs, pl, mo, m, rfl, L, n1, n2, n3, fun H1 k1 L1 => ?_⟩)))))
      refine ⟨by show 2 ≤ sizeLine; decide, fun u hu => ?_⟩
      exact (kQ.trans k1).tup L1 hu (by show 2 ≤ 100000; decide) rfl ⟨_, _, rfl, rfl, _, _, rfl, rfl, rfl⟩
    all_goals
      rw [r] at hn
      cases hn
  · have nn : ∀ {m}, ¬ NumAt X.ts pl m := fun h => by rw [h.1] at hn; cases hn
    refine if_seq (tt_test (te_eq (te_text L (te_var rfl)) te_c rfl)) (fun ht => ?_) fun ht => ?_
    · have ht := V.str.inj (of_decide_eq_true ht)
      rcases r with ⟨m, r, _⟩ | ⟨_, _, r⟩ | ⟨_, r, _⟩ | ⟨_, r, _⟩
      · exact absurd r nn
      · exact ret_un (go_rd (te_var rfl) L ib r kQ)
      · exact absurd ht r
      · exact absurd ht r
    · have ht : tx X.ts pl ≠ "(" := fun z => by rw [z] at ht; simp at ht
      have nm : NameOk (tx X.ts pl) ∧ (tx X.ts pl ∈ X.cs ∨ tx X.ts pl ∈ X.vs) := by
        rcases r with ⟨m, r, _⟩ | ⟨_, r, _⟩ | ⟨_, _, r, r', _⟩ | ⟨_, _, r, r', _⟩
        · exact absurd r nn
        · exact absurd r ht
        · exact ⟨r, .inr r'⟩
        · exact ⟨r, .inl r'⟩
      refine asg_un (meth_go (te_var rfl) L.ob rfl ta_nil ⟨p, X.ts, X.cs, X.vs, pl, mo, rfl, L, nm.1, nm.2, fun H1 k1 L1 => ?_⟩)
      refine set_sl (σ' := [some (.ref p.self), some (.str (tx X.ts pl))]) rfl ?_
      obtain ⟨kw, v1, v2⟩ := L1.hv
      refine if_seq (tt_b (te_dinS (te_var rfl) (te_fld (te_var rfl) L1.ob T.cl_Line T.no_Line_variables rfl) v1 v2)) (fun hv => ?_) fun hv => ?_
      · have hv := of_decide_eq_true hv
        rcases r with ⟨m, r, _⟩ | ⟨_, r, _⟩ | ⟨_, _, _, _, r, rfl, rfl⟩ | ⟨_, _, _, _, r, _⟩
        · exact absurd r nn
        · exact absurd r ht
        · refine cut_sq (if_seq (tt_test (te_eq (te_text1 L1 (te_var rfl)) te_c rfl)) (fun hp => absurd (V.str.inj (of_decide_eq_true hp)) r) fun _ => ?_)
          refine sq_go (drop_un (go_skip L1 (te_var rfl) fun H2 k2 L2 => ?_))
          refine ret_un (tup_un ((ta_cons te_c (ta_cons (te_var rfl) ta_nil)) _ ⟨by show 2 ≤ sizeLine; decide, fun u hu => ?_⟩))
          exact (kQ.trans (k1.trans k2)).tup L2 hu (by show 2 ≤ 100000; decide) rfl ⟨_, _, rfl, rfl, _, _, rfl, rfl, rfl⟩
        · exact absurd hv r
      · have hv := of_decide_eq_false hv
        rcases r with ⟨m, r, _⟩ | ⟨_, r, _⟩ | ⟨_, _, _, r, _⟩ | ⟨_, _, _, _, _, hib, a, ra, rfl⟩
        · exact absurd r nn
        · exact absurd r ht
        · exact absurd r hv
        · have e1 : p.ib = true := by rw [← ib]; exact hib
          refine cut_sq (if_seq (tt_not (tt_test (te_fld (v := .bl true) (te_var rfl) L1.ob T.cl_Line T.no_Line_in_block (by rw [← e1]; rfl)))) (fun z => nomatch z) fun _ => ?_)
          refine sq_go (drop_un (go_skip L1 (te_var rfl) fun H2 k2 L2 => ?_))
          refine ret_un (tup_un (cons_un (Te.go te_c (cons_un (Te.go (te_var rfl) (cons_un (go_rd (te_var rfl) L2 ib ra fun v3 H3 k3 L3 r3 => ?_)))))))
          refine ⟨by show 3 ≤ sizeLine; decide, fun u hu => ?_⟩
          exact (kQ.trans (k1.trans (k2.trans k3))).tup L3 hu (by show 3 ≤ 100000; decide) rfl ⟨_, _, rfl, rfl, _, _, rfl, rfl, _, _, rfl, r3, rfl⟩
/-! ### all of them, for every depth -/
structure RdOk (P : Program) (w : World) (K : PySem.W.Frag) (mg : Str → Option Value) (base : Heap) (A : Adr) (n : Nat) : Prop where
  ex : FnOk P w K mg base CX0 (11 * n + 6) A.a_read_expression A.d_read_expression ["line"] (spRd K A fun X => (LE X n).ex)
  nt : FnOk P w K mg base CX0 (11 * n + 6) A.a__read_not A.d__read_not ["line"] (spRd K A fun X => (LE X n).nt)
  sg : FnOk P w K mg base CX0 (11 * n + 6) A.a__read_sign A.d__read_sign ["line"] (spRd K A fun X => (LE X n).sg)
theorem rd_ok (DT : DcT K w A) (TB : GxR.TabB base mg A.c_is_name A.t_is_name) (T : Txt K mg A) : ∀ n, RdOk P w K mg base A n
  | 0 => by
    refine ⟨?_, ?_, ?_⟩
    · refine T.F_read_expression.ok (k := 5) sc_read_expression (fun ws H Q E ⟨_, _, _, _, _, _, e, _⟩ => by rw [e]; rfl) (fun cdv A' outer s H ws Q E hr h' => ?_)
      obtain ⟨_, _, _, _, _, _, _, _, _, r, _⟩ := h'
      exact r.elim
    · refine T.F__read_not.ok (k := 5) sc_read_not (fun ws H Q E ⟨_, _, _, _, _, _, e, _⟩ => by rw [e]; rfl) (fun cdv A' outer s H ws Q E hr h' => ?_)
      obtain ⟨_, _, _, _, _, _, _, _, _, r, _⟩ := h'
      exact r.elim
    · refine T.F__read_sign.ok (k := 5) sc_read_sign (fun ws H Q E ⟨_, _, _, _, _, _, e, _⟩ => by rw [e]; rfl) (fun cdv A' outer s H ws Q E hr h' => ?_)
      obtain ⟨_, _, _, _, _, _, _, _, _, r, _⟩ := h'
      exact r.elim
  | n + 1 => by
    have ih := rd_ok DT TB T n
    have par := f_parentheses T (by omega) ih.ex
    have idx := f_index T (by omega) par
    have atm := f_atom TB T (by omega) par idx
    have sgn := f_sign T (by omega) atm (ih.sg.mono (by omega))
    have prd := f_product DT T (by omega) sgn
    have sum := f_sum DT T (by omega) prd
    have cmp := f_comparison DT T (by omega) sum
    have ntt := f_not T (by omega) cmp (ih.nt.mono (by omega))
    have an := f_and T (by omega) ntt
    have ex := f_expression T (by omega) an
    exact ⟨ex.mono (by omega), ntt.mono (by omega), sgn.mono (by omega)⟩
end
end K01

namespace K01
open PySem L2 YF YG
open C8 (tCut)
/-! ### statements: what a line with a word is read as -/
inductive Form (X : Tx) (n : Nat) : Str → Nat → Nat → Str → List D → Nat → Nat → Prop
  | later {mo pl q : Nat} {e : Ex} (ib : X.ib = true) (h : (LE X n).ex mo pl e q) : Form X n "later" mo pl "later" [e.d] 0 q
  | atomic {mo pl : Nat} (ib : X.ib = false) (h : tx X.ts pl ≠ "within") : Form X n "atomic" mo pl "block" [.non] 2 pl
/-- a statement's tuple: its word, data, and lists that are empty still -/
def StAt (K : PySem.W.Frag) (C : List Addr) (H : Hp) (sw : Str) (ds : List D) (wl : List Addr) (s : V) : Prop := ∃ a vs, s = .ref a ∧ SqT K (kl C H) a (.str sw :: (vs ++ wl.map V.ref)) ∧ Rp K (kl C H) (D.row ds) vs ∧ (∀ w ∈ wl, H w = some (.lst [])) ∧ wl.Nodup
def PFm (K : PySem.W.Frag) (A : Adr) (Q : VK) (H : Hp) (p : PlL) (X : Tx) (mo : Nat) (sw : Str) (ds : List D) (nw q : Nat) : Prop := ∀ (l : Addr) (s : V) (wl : List Addr) H', Kept (CL A p) H H' → LnAt A H' p X.ts X.cs X.vs q mo → H' l = some (.lst [s]) → StAt K (CL A p ++ wl) H' sw ds wl s → wl.length = nw → (∀ w ∈ l :: wl, H w = none) → l ∉ wl → Q (.ref l) H'
def spFm (K : PySem.W.Frag) (A : Adr) (n : Nat) (wd : Str) : Sp := fun ws H Q _ => ∃ (p : PlL) (X : Tx) (pl mo : Nat) (sw : Str) (ds : List D) (nw q : Nat), ws = [.ref p.self] ∧ LnAt A H p X.ts X.cs X.vs pl mo ∧ X.ib = p.ib ∧ Form X n wd mo pl sw ds nw q ∧ PFm K A Q H p X mo sw ds nw q
def FmS (K : PySem.W.Frag) (A : Adr) (n : Nat) : Addr → Sp → Prop := fun f sp => (f = A.a__read_later ∧ sp = spFm K A n "later") ∨ (f = A.a__read_atomic ∧ sp = spFm K A n "atomic")
structure FmT (K : PySem.W.Frag) (w : World) (A : Adr) : Prop where
  later : KDct K w A.a_BLOCK_FORMS "later" (.ref A.a__read_later)
  hlater : KHas K w A.a_BLOCK_FORMS "later" true
  atomic : KDct K w A.a_THREAD_FORMS "atomic" (.ref A.a__read_atomic)
  hatomic : KHas K w A.a_THREAD_FORMS "atomic" true
def spSts (K : PySem.W.Frag) (A : Adr) (n : Nat) : Sp := fun ws H Q _ => ∃ (p : PlL) (X : Tx) (pl mo : Nat) (wd sw : Str) (ds : List D) (nw q : Nat), ws = [.ref p.self, .str wd] ∧ LnAt A H p X.ts X.cs X.vs pl mo ∧ X.ib = p.ib ∧ Form X n wd mo pl sw ds nw q ∧ PFm K A Q H p X mo sw ds nw q
def Stand (ib : Bool) (wd : Str) : Prop := (ib = true ∧ wd = "later") ∨ (ib = false ∧ wd = "atomic")
def spStand (A : Adr) : Sp := fun ws H Q _ => ∃ ib wd, ws = [.str wd, .bl ib] ∧ Stand ib wd ∧ Q (.bl true) H
theorem Form.stand {X : Tx} {n mo pl nw q : Nat} {wd sw : Str} {ds : List D} (h : Form X n wd mo pl sw ds nw q) : Stand X.ib wd := by
  cases h with
  | later ib h => exact .inl ⟨ib, rfl⟩
  | atomic ib h => exact .inr ⟨ib, rfl⟩
theorem same_none1 {H H' : Hp} {a : Addr} (s : Same H H') (e : H' a = none) : H a = none := by
  cases h : H a with
  | none => rfl
  | some o => rw [s _ _ h] at e; cases e
theorem te_eqT {σ : L2.St} {H : Hp} {ta tb : TE} {x : V} (ha : Te ta σ H x) (hb : Te tb σ H x) (hs : scal x x = true) : Te (tOp rEq ta tb) σ H (.bl true) := by
  have t := te_eq ha hb hs
  rw [decide_eq_true rfl] at t
  exact t
theorem te_eqF {σ : L2.St} {H : Hp} {ta tb : TE} {x y : V} (ha : Te ta σ H x) (hb : Te tb σ H y) (hs : scal x y = true) (n : x ≠ y) : Te (tOp rEq ta tb) σ H (.bl false) := by
  have t := te_eq ha hb hs
  rw [decide_eq_false n] at t
  exact t
section
variable {P : Program} {w : World} {K : PySem.W.Frag} {mg : Str → Option Value} {base : Heap} {A : Adr} {n : Nat}
theorem lst_un {σ : L2.St} {H : Hp} {ta : TA} {Q : VK} (h : ta σ H fun vs H1 => vs.length ≤ sizeLine ∧ ∀ p, H1 p = none → Q (.ref p) (upd H1 p (.lst vs))) : tLst ta σ H Q := h
theorem ok_read_later (T : Txt K mg A) (h : FnOk P w K mg base CX0 (11 * n + 6) A.a_read_expression A.d_read_expression ["line"] (spRd K A fun X => (LE X n).ex)) : FnOk P w K mg base CX0 (11 * n + 7) A.a__read_later A.d__read_later ["line"] (spFm K A n "later") := by
  refine T.F__read_later.ok (k := 11 * n + 6) sc_read_later (fun ws H Q E ⟨_, _, _, _, _, _, _, _, e, _⟩ => by rw [e]; rfl) (fun cdv A' outer s H ws Q E hr h' => ?_)
  obtain ⟨p, X, pl, mo, sw, ds, nw, q, rfl, L, ib, fm, k⟩ := h'
  cases fm with
  | later ib' r =>
    refine ⟨_, pss_one (ps_ret (pe_lst (pa_cons (pe_tup (pa_cons (pe_str) (pa_cons (pe_call h (hr.mono (by omega)) rfl T.g_read_expression T.F_read_expression.kp T.b_read_expression .nil pass0 (pa_cons (pv 0) pa_nil)) pa_nil))) pa_nil))), ?_⟩
    refine ret_un (lst_un (cons_un (tup_un (cons_un (Te.go te_c (cons_un (go_rd (te_var rfl) L ib r fun v H1 k1 L1 rv => ?_)))))))
    refine ⟨by show 2 ≤ sizeLine; decide, fun u hu => ?_⟩
    have L2 := L1.same (Same.upd hu (o := .tup [V.str "later", v]))
    refine ⟨by show 1 ≤ sizeLine; decide, fun z hz => ?_⟩
    have s2 : Same H1 (upd H1 u (.tup [V.str "later", v])) := Same.upd hu
    have eu : upd H1 u (.tup [V.str "later", v]) u = some (.tup [V.str "later", v]) := upd_same
    have nu := L1.nCL hu
    generalize upd H1 u (.tup [V.str "later", v]) = H2 at L2 hz s2 eu ⊢
    have k2 : Kept (CL A p) H H2 := k1.trans (Kept.of s2)
    refine k z (.ref u) [] _ (k2.trans (Kept.of (Same.upd hz))) (L2.same (Same.upd hz)) upd_same ?_ rfl (fun w hw => ?_) (fun z => nomatch z)
    · rw [List.append_nil]
      refine ⟨u, [v], rfl, SqT.of (kl_at (Same.upd hz _ _ eu) nu), ⟨v, [], rfl, Rp.mono (Kept.of (s2.trans (Same.upd hz))).kl rv, rfl⟩, (fun w hw => nomatch hw), List.nodup_nil⟩
    · rw [List.mem_singleton.mp hw]
      cases e : H z with
      | none => rfl
      | some o =>
        have := L2.nCL hz
        rw [k2 _ _ this e] at hz; cases hz
theorem ok_read_atomic (T : Txt K mg A) (h : FnOk P w K mg base CX0 (11 * n + 6) A.a_read_expression A.d_read_expression ["line"] (spRd K A fun X => (LE X n).ex)) : FnOk P w K mg base CX0 (11 * n + 7) A.a__read_atomic A.d__read_atomic ["line"] (spFm K A n "atomic") := by
  refine T.F__read_atomic.ok (k := 11 * n + 6) sc_read_atomic (fun ws H Q E ⟨_, _, _, _, _, _, _, _, e, _⟩ => by rw [e]; rfl) (fun cdv A' outer s H ws Q E hr h' => ?_)
  obtain ⟨p, X, pl, mo, sw, ds, nw, q, rfl, L, ib, fm, k⟩ := h'
  cases fm with
  | atomic ib' r =>
    refine ⟨_, pss_cons (ps_set (i := 1) sc_read_atomic.nd rfl (Or.inl rfl) (pe_non))
  (C8.pss_cut (ps_if (pt_cmpR op_eq (pe_meth0 (pv 0) T.cl_Line T.m_Line_text (ok_Line_text T) (hr.mono (by omega)) (bd_Line_text_0 T).choose_spec.2 (bd_Line_text_0 T).choose_spec.1 pass0) (pe_str) (nomark _))
  (pss_cons (ps_expr (pe_meth0 (pv 0) T.cl_Line T.m_Line_skip (ok_Line_skip T) (hr.mono (by omega)) T.b_Line_skip .nil pass0))
  (pss_one (ps_set (i := 1) sc_read_atomic.nd rfl (Or.inl rfl) (pe_call h (hr.mono (by omega)) rfl T.g_read_expression T.F_read_expression.kp T.b_read_expression .nil pass0 (pa_cons (pv 0) pa_nil)))))
  (pss_nil))
  (pss_one (ps_ret (pe_lst (pa_cons (pe_tup (pa_cons (pe_str) (pa_cons (pv 1) (pa_cons (pe_lst pa_nil) (pa_cons (pe_lst pa_nil) pa_nil))))) pa_nil))))), ?_⟩
    refine asg_te te_c (set_sl (σ' := [some (.ref p.self), some .non]) rfl ?_)
    refine cut_sq (if_seq (b := false) (tt_test (te_eqF (te_text L (te_var rfl)) te_c rfl (fun z => r (V.str.inj z)))) (fun z => nomatch z) fun _ => ?_)
    refine ret_un (lst_un (cons_un (tup_un (cons_un (Te.go te_c (cons_un (Te.go (te_var rfl) (cons_un (lst_un (nil_un ⟨Nat.zero_le _, fun w1 h1 => cons_un (lst_un (nil_un ⟨Nat.zero_le _, fun w2 h2 => nil_un ?_⟩))⟩))))))))))
    have s1 : Same H (upd H w1 (.lst [])) := Same.upd h1
    have e1 : upd H w1 (.lst []) w1 = some (.lst []) := upd_same
    generalize upd H w1 (.lst []) = H1 at s1 e1 h2 ⊢
    have s2 : Same H1 (upd H1 w2 (.lst [])) := Same.upd h2
    have e2 : upd H1 w2 (.lst []) w2 = some (.lst []) := upd_same
    have n12 : w1 ≠ w2 := fun z => by rw [z, h2] at e1; cases e1
    have e1 := s2 _ _ e1
    generalize upd H1 w2 (.lst []) = H2 at s2 e1 e2 ⊢
    refine ⟨by show 4 ≤ sizeLine; decide, fun u hu => ?_⟩
    have s3 : Same H2 (upd H2 u (.tup [.str "block", .non, .ref w1, .ref w2])) := Same.upd hu
    have e3 : upd H2 u (.tup [.str "block", .non, .ref w1, .ref w2]) u = some (.tup [.str "block", .non, .ref w1, .ref w2]) := upd_same
    have nu1 : u ≠ w1 := fun z => by rw [z, e1] at hu; cases hu
    have nu2 : u ≠ w2 := fun z => by rw [z, e2] at hu; cases hu
    have L2 := (L.same s1).same s2
    have nuC := L2.nCL hu
    have huH : H u = none := same_none1 (s1.trans s2) hu
    have hw2 : H w2 = none := same_none1 s1 h2
    refine ⟨by show 1 ≤ sizeLine; decide, fun z hz => ?_⟩
    have L3 := L2.same s3
    have e1 := s3 _ _ e1
    have e2 := s3 _ _ e2
    have S3 := (s1.trans s2).trans s3
    generalize upd H2 u (.tup [.str "block", .non, .ref w1, .ref w2]) = H3 at s3 e1 e2 e3 L3 hz S3 ⊢
    have hzH : H z = none := same_none1 S3 hz
    have nz1 : z ≠ w1 := fun q => by rw [q, e1] at hz; cases hz
    have nz2 : z ≠ w2 := fun q => by rw [q, e2] at hz; cases hz
    have s4 : Same H3 (upd H3 z (.lst [.ref u])) := Same.upd hz
    refine k z (.ref u) [w1, w2] _ (Kept.of (S3.trans s4)) (L3.same s4) upd_same ⟨u, [.non], rfl, SqT.of (kl_at (s4 _ _ e3) fun m => ?_), ⟨.non, [], rfl, rfl, rfl⟩, fun w hw => ?_, by simp [n12]⟩ rfl (fun w hw => ?_) (by simp [nz1, nz2])
    · rcases List.mem_append.mp m with m | m
      · exact nuC m
      · simp only [List.mem_cons, List.not_mem_nil, or_false] at m
        exact m.elim nu1 nu2
    · simp only [List.mem_cons, List.not_mem_nil, or_false] at hw
      rcases hw with rfl | rfl
      · exact s4 _ _ e1
      · exact s4 _ _ e2
    · simp only [List.mem_cons, List.not_mem_nil, or_false] at hw
      rcases hw with rfl | rfl | rfl
      · exact hzH
      · exact h1
      · exact hw2
theorem fmS_ok (T : Txt K mg A) (h : FnOk P w K mg base CX0 (11 * n + 6) A.a_read_expression A.d_read_expression ["line"] (spRd K A fun X => (LE X n).ex)) : ∀ f sp, FmS K A n f sp → HeldO P w K mg base (11 * n + 7) f sp := by
  rintro f sp (⟨rfl, rfl⟩ | ⟨rfl, rfl⟩)
  · exact ⟨_, _, ok_read_later T h, T.F__read_later.kp, T.b__read_later⟩
  · exact ⟨_, _, ok_read_atomic T h, T.F__read_atomic.kp, T.b__read_atomic⟩
theorem ok_read_statements (FT : FmT K w A) (T : Txt K mg A) (h : FnOk P w K mg base CX0 (11 * n + 6) A.a_read_expression A.d_read_expression ["line"] (spRd K A fun X => (LE X n).ex)) : FnOk P w K mg base CX0 (11 * n + 8) A.a_read_statements A.d_read_statements ["line", "word"] (spSts K A n) := by
  refine T.F_read_statements.ok (k := 11 * n + 7) sc_read_statements (fun ws H Q E ⟨_, _, _, _, _, _, _, _, _, e, _⟩ => by rw [e]; rfl) (fun cdv A' outer s H ws Q E hr h' => ?_)
  obtain ⟨p, X, pl, mo, wd, sw, ds, nw, q, rfl, L, ib, fm, k⟩ := h'
  refine ⟨_, C8.pss_cut (ps_if (pt_val (pe_fld (pv 0) rfl))
  (pss_one (ps_set (i := 2) sc_read_statements.nd rfl (Or.inl rfl) (pe_ix ix_kdict (pe_glob (v := .ref A.a_BLOCK_FORMS) rfl T.g_BLOCK_FORMS rfl) (pv 1) (fun _ _ => rfl))))
  (pss_one (ps_set (i := 2) sc_read_statements.nd rfl (Or.inl rfl) (pe_ix ix_kdict (pe_glob (v := .ref A.a_THREAD_FORMS) rfl T.g_THREAD_FORMS rfl) (pv 1) (fun _ _ => rfl)))))
  (pss_one (ps_ret (pe_callAO (S := FmS K A n) (fmS_ok T h) (hr.mono (by omega)) (i := 2) rfl (Or.inl rfl) (pa_cons (pv 0) pa_nil)))), ?_⟩
  have tb : Tt (tTest (tFld K (tVar 0) "in_block")) [some (.ref p.self), some (.str wd), none] H X.ib := tt_b (te_fld (te_var rfl) L.ob T.cl_Line T.no_Line_in_block (by rw [ib]; rfl))
  refine cut_sq (sq_go ?_)
  rcases fm.stand with ⟨hb, hw⟩ | ⟨hb, hw⟩
  · rw [hb] at tb
    subst hw
    refine if_go (b := true) tb (fun _ => ?_) (fun z => nomatch z)
    refine Te.go (te_kdict (te_var rfl) FT.later) ?_
    refine set_sl (σ' := [some (.ref p.self), some (.str "later"), some (.ref A.a__read_later)]) rfl ?_
    refine ret_un (te := tCallAO 2 (FmS K A n) (tCons (tVar 0) tNil)) ?_
    exact ⟨A.a__read_later, spFm K A n "later", rfl, .inl ⟨rfl, rfl⟩, (ta1 (te_var rfl)) _ ⟨p, X, pl, mo, sw, ds, nw, q, rfl, L, ib, fm, k⟩⟩
  · rw [hb] at tb
    subst hw
    refine if_go (b := false) tb (fun z => nomatch z) fun _ => ?_
    refine Te.go (te_kdict (te_var rfl) FT.atomic) ?_
    refine set_sl (σ' := [some (.ref p.self), some (.str "atomic"), some (.ref A.a__read_atomic)]) rfl ?_
    refine ret_un (te := tCallAO 2 (FmS K A n) (tCons (tVar 0) tNil)) ?_
    exact ⟨A.a__read_atomic, spFm K A n "atomic", rfl, .inr ⟨rfl, rfl⟩, (ta1 (te_var rfl)) _ ⟨p, X, pl, mo, sw, ds, nw, q, rfl, L, ib, fm, k⟩⟩
theorem ok_may_stand (FT : FmT K w A) (T : Txt K mg A) : FnOk P w K mg base CX0 1 A.a_may_stand A.d_may_stand ["word", "in_block"] (spStand A) := by
  refine T.F_may_stand.ok sc_may_stand (fun ws H Q E ⟨_, _, e, _⟩ => by rw [e]; rfl) (fun cdv A' outer s H ws Q E hr h' => ?_)
  obtain ⟨ib, wd, rfl, hs, k⟩ := h'
  refine ⟨_, pss_cons (ps_if (pt_val (pv 1))
  (pss_one (ps_ret (pe_cmpR op_inKd (pv 0) (pe_glob (v := .ref A.a_BLOCK_FORMS) rfl T.g_BLOCK_FORMS rfl) (by rfl))))
  (pss_nil))
  (pss_one (ps_ret (pe_cmpR op_inKd (pv 0) (pe_glob (v := .ref A.a_THREAD_FORMS) rfl T.g_THREAD_FORMS rfl) (by rfl)))), ?_⟩
  rcases hs with ⟨rfl, rfl⟩ | ⟨rfl, rfl⟩
  · exact if_seq (b := true) (tt_b (te_var rfl)) (fun _ => ret_te (te_inKd (te_var rfl) FT.hlater) k) (fun z => nomatch z)
  · exact if_seq (b := false) (tt_b (te_var rfl)) (fun z => nomatch z) fun _ => ret_te (te_inKd (te_var rfl) FT.hatomic) k
end
end K01

namespace K01
open PySem L2 YF YG
/-! ### how much a statement is -/
def plainW (wd : Str) : Prop := wd ≠ "if" ∧ wd ≠ "repeat" ∧ wd ≠ "block" ∧ wd ≠ "choose"
/-- where a statement's lists stand: behind so many data, so many lists -/
def ShW (sw : Str) (i j : Nat) : Prop := (plainW sw ∧ j = 0) ∨ ((sw = "if" ∨ sw = "block") ∧ i = 1 ∧ j = 2) ∨ (sw = "repeat" ∧ i = 1 ∧ j = 1) ∨ (sw = "choose" ∧ i = 0 ∧ j = 2)
theorem Form.sh {X : Tx} {n mo pl nw q : Nat} {wd sw : Str} {ds : List D} (h : Form X n wd mo pl sw ds nw q) : ShW sw ds.length nw := by
  cases h with
  | later ib h => exact .inl ⟨⟨by decide, by decide, by decide, by decide⟩, rfl⟩
  | atomic ib h => exact .inr (.inl ⟨.inr rfl, rfl, rfl⟩)
def spLists (K : PySem.W.Frag) : Sp := fun ws H Q _ => ∃ (a : Addr) (vs : List V) (wl : List Addr) (sw : Str), ws = [.ref a] ∧ SqT K H a (.str sw :: (vs ++ wl.map V.ref)) ∧ ShW sw vs.length wl.length ∧ ∀ u H', Same H H' → H' u = some (.tup (wl.map V.ref)) → Q (.ref u) H'
def repI (sw : Str) : Int := if sw = "repeat" then 1 else 0
def anyI (wl : List Addr) : Int := if wl = [] then 0 else 1
def spMeas (K : PySem.W.Frag) : Sp := fun ws H Q _ => ∃ (l a : Addr) (vs : List V) (wl : List Addr) (sw : Str), ws = [.ref l] ∧ SqL K H l [.ref a] ∧ SqT K H a (.str sw :: (vs ++ wl.map V.ref)) ∧ ShW sw vs.length wl.length ∧ (∀ w ∈ wl, H w = some (.lst [])) ∧ ∀ u H', Same H H' → H' u = some (.tup [.int 1, .int (anyI wl), .int (repI sw)]) → Q (.ref u) H'
def spLim : Sp := fun ws H Q _ => ∃ a b c : Int, ws = [.int a, .int b, .int c] ∧ Q (.bl (decide (a ≤ 80) && (decide (b ≤ 6) && decide (c ≤ 2)))) H
theorem sIx_nat {len n : Nat} (d : Nat) : HT.sIx len d (some (n : Int)) = min n len := by
  unfold HT.sIx
  dsimp only
  rw [if_neg (by omega)]
  omega
theorem go_slT {K : PySem.W.Frag} {σ : L2.St} {H : Hp} {te tn : TE} {Q : VK} {a : Addr} {xs : List V} {n : Nat} (h : Te te σ H (.ref a)) (t : Te tn σ H (.int n)) (hs : SqT K H a xs) (n0 : 0 < n) (l0 : 0 < xs.length) (k : ∀ p, H p = none → Q (.ref p) (upd H p (.tup (xs.drop n)))) : L2.tSl (rSlA K) te (tPart tn) tNoPart σ H Q :=
  h _ (t _ ⟨_, rfl, a, xs, rfl, hs, fun z => absurd z.1 (by rw [sIx_nat]; omega), fun _ p hp => by rw [cut_from]; exact k p hp⟩)
theorem for_unT {K : PySem.W.Frag} {σ : L2.St} {H : Hp} {te : TE} {g : TG} {tb : TS} {D : Ends} (h : te σ H fun x H1 => tFor (iTup K (tC x)) g tb D σ H1) : tFor (iTup K te) g tb D σ H := h
theorem ti_tup {K : PySem.W.Frag} {σ : L2.St} {H : Hp} {te : TE} {a : Addr} {xs : List V} (h : Te te σ H (.ref a)) (hs : SqT K H a xs) : Ti (iTup K te) σ H (Itt K a) := fun R q => h _ ⟨a, rfl, ⟨xs, hs⟩, q⟩
theorem go_popA {K : PySem.W.Frag} {σ : L2.St} {to : TE} {g : TG} {D : Ends} {H : Hp} {x : Addr} {xs : List V} {y : V} (hp : Te to σ H (.ref x)) (e : H x = some (.lst (xs ++ [y]))) (k : g y σ (upd H x (.lst xs)) D.nx) : tAsg (tBM0 K "list" rPop to) g D σ H :=
  hp _ ⟨.inl ⟨rfl, _, SqL.of e⟩, x, _, y, rfl, rfl, e, by simp, by rw [List.dropLast_concat]; exact k⟩
theorem te_ifB {σ : L2.St} {H : Hp} {t : TT} {ta tb : TE} {v : V} {b : Bool} (ht : Tt t σ H b) (ha : b = true → Te ta σ H v) (hb : b = false → Te tb σ H v) : Te (tIf t ta tb) σ H v := fun Q q => ht _ (by
  show (if (b : Bool) = true then ta σ H Q else tb σ H Q)
  cases b with
  | true => rw [if_pos rfl]; exact ha rfl _ q
  | false => rw [if_neg Bool.false_ne_true]; exact hb rfl _ q)
theorem te_max {σ : L2.St} {H : Hp} {ta tb : TE} {i j : Int} (ha : Te ta σ H (.int i)) (hb : Te tb σ H (.int j)) : Te (tCB (fun xs H Q => ∃ i j, xs = [V.int i, V.int j] ∧ Q (.int (if j > i then j else i)) H) (tCons ta (tCons tb tNil))) σ H (.int (if j > i then j else i)) := fun Q q => ha _ (hb _ ⟨i, j, rfl, q⟩)
section
variable {P : Program} {w : World} {K : PySem.W.Frag} {mg : Str → Option Value} {base : Heap} {A : Adr}
theorem ok_are_within_limits (T : Txt K mg A) : FnOk P w K mg base CX0 1 A.a_are_within_limits A.d_are_within_limits ["many", "lists", "repeats"] spLim := by
  refine T.F_are_within_limits.ok sc_are_within_limits (fun ws H Q E ⟨_, _, _, e, _⟩ => by rw [e]; rfl) (fun cdv A' outer s H ws Q E hr h' => ?_)
  obtain ⟨a, b, c, rfl, k⟩ := h'
  refine ⟨_, pss_one (ps_ret (pe_and (pe_cmpR op_le (pv 0) (pe_glob (v := .int 80) rfl T.g_MOST_STATEMENTS ⟨_, rfl⟩) (nomark _)) (pe_and (pe_cmpR op_le (pv 1) (pe_glob (v := .int 6) rfl T.g_MOST_LISTS ⟨_, rfl⟩) (nomark _)) (pe_one (pe_cmpR op_le (pv 2) (pe_glob (v := .int 2) rfl T.g_MOST_REPEATS ⟨_, rfl⟩) (nomark _)))))), ?_⟩
  exact ret_te (te_andV (te_i0 (te_var rfl) te_c) fun _ => te_andV (te_i0 (te_var rfl) te_c) fun _ => te_i0 (te_var rfl) te_c) k
theorem ok_lists_of (T : Txt K mg A) : FnOk P w K mg base CX0 1 A.a_lists_of A.d_lists_of ["statement"] (spLists K) := by
  refine T.F_lists_of.ok sc_lists_of (fun ws H Q E ⟨_, _, _, _, e, _⟩ => by rw [e]; rfl) (fun cdv A' outer s H ws Q E hr h' => ?_)
  obtain ⟨a, vs, wl, wd, rfl, hs, sh, k⟩ := h'
  refine ⟨_, pss_cons (ps_set (i := 1) sc_lists_of.nd rfl (Or.inl rfl) (pe_ix ix_tup (pv 0) (pe_int) (fun _ _ => rfl)))
  (pss_cons (ps_if (PW.pt (pw_or (pt_cmpR op_eq (pv 1) (pe_str) (nomark _)) (pw_or (pt_cmpR op_eq (pv 1) (pe_str) (nomark _)) (pw_or1 (pt_cmpR op_eq (pv 1) (pe_str) (nomark _))))))
  (pss_one (ps_ret (pe_slice sl_tupA (pv 0) (po_some (pe_int)) (po_none))))
  (pss_nil))
  (pss_cons (ps_if (pt_cmpR op_eq (pv 1) (pe_str) (nomark _))
  (pss_one (ps_ret (pe_slice sl_tupA (pv 0) (po_some (pe_int)) (po_none))))
  (pss_nil))
  (pss_one (ps_ret (pe_tup pa_nil))))), ?_⟩
  refine asg_te (te_ixT (te_var rfl) te_c hs (atI_nat (j := 0) rfl)) ?_
  refine set_sl (σ' := [some (.ref a), some (.str wd)]) rfl ?_
  have ne : ∀ {z : Str}, wd ≠ z → decide (V.str wd = V.str z) = false := fun h => decide_eq_false fun q => h (V.str.inj q)
  have eq : ∀ {z : Str}, wd = z → decide (V.str wd = V.str z) = true := fun h => by rw [h]; simp
  refine if_seq (tt_or (tt_test (te_eq (te_var rfl) te_c rfl)) fun _ => tt_or (tt_test (te_eq (te_var rfl) te_c rfl)) fun _ => tt_test (te_eq (te_var rfl) te_c rfl)) (fun h => ?_) fun h => ?_
  · refine ret_un (go_slT (n := 2) (te_var rfl) te_c hs (by decide) (by simp) fun p hp => ?_)
    have hv : vs.length = 1 := by
      rcases sh with ⟨⟨n1, n2, n3, n4⟩, _⟩ | ⟨_, hv, _⟩ | ⟨_, hv, _⟩ | ⟨hc, _⟩
      · rw [ne n1, ne n2, ne n3] at h; cases h
      · exact hv
      · exact hv
      · subst hc; exact absurd h (by decide)
    match vs, hv with
    | [v], _ => exact k p _ (Same.upd hp) upd_same
  · refine if_seq (tt_test (te_eq (te_var rfl) te_c rfl)) (fun h2 => ?_) fun h2 => ?_
    · refine ret_un (go_slT (n := 1) (te_var rfl) te_c hs (by decide) (by simp) fun p hp => ?_)
      have hv : vs.length = 0 := by
        have h2 := V.str.inj (of_decide_eq_true h2)
        rcases sh with ⟨⟨n1, n2, n3, n4⟩, _⟩ | ⟨hc, _⟩ | ⟨hc, _⟩ | ⟨_, hv, _⟩
        · exact absurd h2 n4
        · rcases hc with hc | hc <;> (rw [hc] at h2; exact absurd h2 (by decide))
        · rw [hc] at h2; exact absurd h2 (by decide)
        · exact hv
      match vs, hv with
      | [], _ => exact k p _ (Same.upd hp) upd_same
    · have hw : wl = [] := by
        rcases sh with ⟨_, hl⟩ | ⟨hc, _⟩ | ⟨hc, _⟩ | ⟨hc, _⟩
        · exact List.length_eq_zero_iff.mp hl
        · rcases hc with hc | hc <;> (subst hc; exact absurd h (by decide))
        · subst hc; exact absurd h (by decide)
        · subst hc; exact absurd h2 (by decide)
      subst hw
      exact ret_un (tup_un ⟨Nat.zero_le _, fun u hu => k u _ (Same.upd hu) upd_same⟩)
end
end K01

namespace K01
open PySem L2 YF YG
section
variable {P : Program} {w : World} {K : PySem.W.Frag} {mg : Str → Option Value} {base : Heap} {A : Adr}
theorem sh_len {sw : Str} {i j : Nat} (h : ShW sw i j) : j ≤ 2 := by
  rcases h with ⟨_, h⟩ | ⟨_, _, h⟩ | ⟨_, _, h⟩ | ⟨_, _, h⟩ <;> omega
theorem ok_measure (T : Txt K mg A) : FnOk P w K mg base CX0 2 A.a_measure A.d_measure ["statements"] (spMeas K) := by
  refine T.F_measure.ok (k := 1) sc_measure (fun ws H Q E ⟨_, _, _, _, _, e, _⟩ => by rw [e]; rfl) (fun cdv A' outer s H ws Q E hr h' => ?_)
  obtain ⟨l, a, vs, wl, sw, rfl, hl, hs, sh, hw, k⟩ := h'
  have hw2 := sh_len sh
  refine ⟨_, pss_cons (ps_set (i := 1) sc_measure.nd rfl (Or.inl rfl) (pe_int))
  (pss_cons (ps_set (i := 2) sc_measure.nd rfl (Or.inl rfl) (pe_int))
  (pss_cons (ps_set (i := 3) sc_measure.nd rfl (Or.inl rfl) (pe_int))
  (pss_cons (ps_set (i := 4) sc_measure.nd rfl (Or.inl rfl) (pe_lst (pa_cons (pe_tup (pa_cons (pv 0) (pa_cons (pe_int) (pa_cons (pe_int) pa_nil)))) pa_nil)))
  (pss_cons (ps_while PassesOwn.never (pt_truth (pv 4) (by intro _; rfl))
  (pss_cons (ps_asg (pe_bm0 PySem.F.plainAttrs_list PySem.F.slot_list_pop PySem.F.type_list_pop mt_pop (pv 4)) (pg_tup (by rfl) (pgs_cons (pg_name (i := 5) sc_measure.nd rfl (Or.inl rfl)) (pgs_cons (pg_name (i := 6) sc_measure.nd rfl (Or.inl rfl)) (pgs_cons (pg_name (i := 7) sc_measure.nd rfl (Or.inl rfl)) pgs_nil)))))
  (pss_cons (ps_aug (i := 1) sc_measure.nd rfl (Or.inl rfl) (pe_callB call_len_seq (by rfl) T.n_len (by decide +kernel) (pa_cons (pv 5) pa_nil)) ip_add)
  (pss_cons (ps_set (i := 2) sc_measure.nd rfl (Or.inl rfl) (pe_callB (call_max2 rfl) (by rfl) T.n_max (by decide +kernel) (pa_cons (pv 2) (pa_cons (pv 6) pa_nil))))
  (pss_one (ps_for PassesOwn.never rfl (pi_list (pv 5)) (pg_name (i := 8) sc_measure.nd rfl (Or.inl rfl))
  (pss_cons (ps_set (i := 9) sc_measure.nd rfl (Or.inl rfl) (pe_ifExp (pt_cmpR op_eq (pe_ix ix_tup (pv 8) (pe_int) (fun _ _ => rfl)) (pe_str) (nomark _)) (pe_op op_add (pv 7) (pe_int)) (pv 7)))
  (pss_cons (ps_set (i := 3) sc_measure.nd rfl (Or.inl rfl) (pe_callB (call_max2 rfl) (by rfl) T.n_max (by decide +kernel) (pa_cons (pv 3) (pa_cons (pv 9) pa_nil))))
  (pss_one (ps_for PassesOwn.never rfl (pi_tup (pe_call (ok_lists_of T) (hr.mono (by decide)) rfl T.g_lists_of T.F_lists_of.kp T.b_lists_of .nil pass0 (pa_cons (pv 8) pa_nil))) (pg_name (i := 10) sc_measure.nd rfl (Or.inl rfl))
  (pss_one (ps_expr (pe_bm PySem.F.plainAttrs_list PySem.F.slot_list_append PySem.F.type_list_append mt_append (pv 4) (pa_cons (pe_tup (pa_cons (pv 10) (pa_cons (pe_op op_add (pv 6) (pe_int)) (pa_cons (pv 9) pa_nil)))) pa_nil))))))))))))))
  (pss_one (ps_ret (pe_tup (pa_cons (pv 1) (pa_cons (pv 2) (pa_cons (pv 3) pa_nil)))))))))), ?_⟩
  refine asg_te te_c (set_sl (σ' := [some (.ref l), some (.int 0), none, none, none, none, none, none, none, none, none]) rfl ?_)
  refine asg_te te_c (set_sl (σ' := [some (.ref l), some (.int 0), some (.int 0), none, none, none, none, none, none, none, none]) rfl ?_)
  refine asg_te te_c (set_sl (σ' := [some (.ref l), some (.int 0), some (.int 0), some (.int 0), none, none, none, none, none, none, none]) rfl ?_)
  refine asg_un (lst_un (cons_un (tup_un ((ta_cons (te_var rfl) (ta_cons te_c (ta_cons te_c ta_nil))) _ ⟨by show 3 ≤ sizeLine; decide, fun t ht => ?_⟩))))
  refine ⟨by show 1 ≤ sizeLine; decide, fun q hq => ?_⟩
  have et : upd H t (.tup [.ref l, .int 0, .int 0]) t = some (.tup [.ref l, .int 0, .int 0]) := upd_same
  have s1 : Same H (upd H t (.tup [.ref l, .int 0, .int 0])) := Same.upd ht
  generalize upd H t (.tup [.ref l, .int 0, .int 0]) = H1 at et s1 hq ⊢
  have eq2 : upd H1 q (.lst [.ref t]) q = some (.lst [.ref t]) := upd_same
  have s2 : Same H (upd H1 q (.lst [.ref t])) := s1.trans (Same.upd hq)
  have et2 := (Same.upd hq (o := .lst [.ref t])) _ _ et
  have hqn : H q = none := same_none1 s1 hq
  generalize upd H1 q (.lst [.ref t]) = H2 at eq2 s2 et2 ⊢
  refine set_sl (σ' := [some (.ref l), some (.int 0), some (.int 0), some (.int 0), some (.ref q), none, none, none, none, none, none]) rfl ?_
  have npq : ∀ {b : Addr} {o : HO}, H b = some o → b ≠ q := fun e z => by rw [z, hqn] at e; cases e
  refine ⟨fun m σ G => (m = 100 ∧ G = H2 ∧ σ = [some (.ref l), some (.int 0), some (.int 0), some (.int 0), some (.ref q), none, none, none, none, none, none]) ∨
    (∃ (ts : List Addr) (lv : Int), m = ts.length ∧ m ≤ 2 ∧ Same H G ∧ G q = some (.lst (ts.map V.ref)) ∧ (∀ t ∈ ts, ∃ w ∈ wl, G t = some (.tup [.ref w, .int 1, .int (repI sw)])) ∧ ((lv = 1 ∧ wl ≠ []) ∨ (lv = 0 ∧ ts.length = wl.length)) ∧ ∃ v5 v6 v7 v8 v9 v10, σ = [some (.ref l), some (.int 1), some (.int lv), some (.int (repI sw)), some (.ref q), v5, v6, v7, v8, v9, v10]), ⟨100, .inl ⟨rfl, rfl, rfl⟩⟩, ?_⟩
  rintro m σ G (⟨rfl, rfl, rfl⟩ | ⟨ts, lv, rfl, hm, sG, eG, tG, hlv, v5, v6, v7, v8, v9, v10, rfl⟩)
  · refine ⟨_, rfl, true, .inl ⟨_, SqL.of eq2, rfl⟩, ?_⟩
    refine (if_pos rfl).mpr ?_
    refine ⟨fun σ' H' => ∃ (ts : List Addr) (lv : Int), ts.length ≤ 2 ∧ Same H H' ∧ H' q = some (.lst (ts.map V.ref)) ∧ (∀ t ∈ ts, ∃ w ∈ wl, H' t = some (.tup [.ref w, .int 1, .int (repI sw)])) ∧ ((lv = 1 ∧ wl ≠ []) ∨ (lv = 0 ∧ ts.length = wl.length)) ∧ ∃ v5 v6 v7 v8 v9 v10, σ' = [some (.ref l), some (.int 1), some (.int lv), some (.int (repI sw)), some (.ref q), v5, v6, v7, v8, v9, v10], fun σ' H' ⟨ts, lv, h1, h2⟩ => ⟨ts.length, by omega, .inr ⟨ts, lv, rfl, h1, h2⟩⟩, ?_⟩
    refine sq_go (go_popA (xs := []) (te_var rfl) eq2 ?_)
    have sG : Same H (upd G q (.lst [])) := fun b o e => by
      rw [upd_ne (npq e)]
      exact s2 b o e
    have eG : upd G q (.lst []) q = some (.lst []) := upd_same
    have et3 : upd G q (.lst []) t = some (.tup [.ref l, .int 0, .int 0]) := by
      rw [upd_ne (fun z => by rw [z, eq2] at et2; cases et2)]
      exact et2
    generalize upd G q (.lst []) = G1 at sG eG et3 ⊢
    refine ⟨t, _, rfl, SqT.of et3, rfl, _, _, rfl, _, _, rfl, _, _, rfl, rfl, ?_⟩
    refine sq_go ?_
    refine ⟨_, rfl, te_len (te_var rfl) (.inl (Same.sqL sG hl)) _ ⟨_, _, rfl, rfl, ?_⟩⟩
    refine asg_te (te_max (te_var rfl) (te_var rfl)) ?_
    refine for_go (ti_list (te_var rfl) (Same.sqL sG hl)) (walk_list (K := K) (a := l) (xs := [V.ref a])) (fun i σ G2 => (i = 0 ∧ G2 = G1 ∧ σ = [some (.ref l), some (.int 1), some (.int 0), some (.int 0), some (.ref q), some (.ref l), some (.int 0), some (.int 0), none, none, none]) ∨ (i = 1 ∧ Same H G2 ∧ ∃ ts : List Addr, ts.length = wl.length ∧ G2 q = some (.lst (ts.map V.ref)) ∧ (∀ t ∈ ts, ∃ w ∈ wl, G2 t = some (.tup [.ref w, .int 1, .int (repI sw)])) ∧ ∃ v5 v6 v7 v8 v9 v10, σ = [some (.ref l), some (.int 1), some (.int 0), some (.int (repI sw)), some (.ref q), v5, v6, v7, v8, v9, v10])) (.inl ⟨rfl, rfl, rfl⟩) ?_ ?_ ?_
    · rintro i σ G2 _ (⟨_, rfl, _⟩ | ⟨_, s, _⟩)
      · exact Same.sqL sG hl
      · exact Same.sqL s hl
    · rintro i x σ G2 G3 hi (⟨rfl, rfl, rfl⟩ | ⟨rfl, _⟩) ⟨rfl, ex⟩
      · cases ex
        refine set_sl (σ' := [some (.ref l), some (.int 1), some (.int 0), some (.int 0), some (.ref q), some (.ref l), some (.int 0), some (.int 0), some (.ref a), none, none]) rfl ?_
        have hsG := Same.sqT sG hs
        refine asg_te (v := .int (repI sw)) (te_ifB (b := decide (V.str sw = V.str "repeat")) (tt_test (te_eq (te_ixT (te_var rfl) te_c hsG (atI_nat (j := 0) rfl)) te_c rfl)) (fun h => ?_) fun h => ?_) ?_
        · have h : sw = "repeat" := V.str.inj (of_decide_eq_true h)
          have e : repI sw = 0 + 1 := by unfold repI; rw [if_pos h]; rfl
          rw [e]
          exact te_i0 (te_var rfl) te_c
        · have h : ¬ sw = "repeat" := fun z => of_decide_eq_false h (by rw [z])
          have e : repI sw = 0 := by unfold repI; rw [if_neg h]
          rw [e]
          exact te_var rfl
        refine asg_te (te_max (te_var rfl) (te_var rfl)) ?_
        have er : (if repI sw > 0 then repI sw else 0) = repI sw := by
          unfold repI
          split <;> rfl
        rw [er]
        refine set_sl (σ' := [some (.ref l), some (.int 1), some (.int 0), some (.int (repI sw)), some (.ref q), some (.ref l), some (.int 0), some (.int 0), some (.ref a), some (.int (repI sw)), none]) rfl ?_
        refine for_unT (go_call (ta1 (te_var rfl)) ⟨a, vs, wl, sw, rfl, hsG, sh, fun u H5 s5 e5 => ?_⟩)
        refine for_go (ti_tup te_c (SqT.of e5)) (walk_tup (K := K) (a := u) (xs := wl.map V.ref)) (fun i σ G => Same H G ∧ G u = some (.tup (wl.map V.ref)) ∧ ∃ ts : List Addr, ts.length = i ∧ G q = some (.lst (ts.map V.ref)) ∧ (∀ t ∈ ts, ∃ w ∈ wl, G t = some (.tup [.ref w, .int 1, .int (repI sw)])) ∧ ∃ v10, σ = [some (.ref l), some (.int 1), some (.int 0), some (.int (repI sw)), some (.ref q), some (.ref l), some (.int 0), some (.int 0), some (.ref a), some (.int (repI sw)), v10]) ⟨sG.trans s5, e5, [], rfl, s5 _ _ eG, (fun t h => (nomatch h)), _, rfl⟩ (fun i σ G _ h => SqT.of h.2.1) ?_ ?_
        · rintro i x σ F' F hi ⟨sF, eu, us, lu, eF, tF, v10, rfl⟩ ⟨rfl, ex⟩
          rw [List.getElem?_map] at ex
          obtain ⟨wx, ewx, ev⟩ := Option.map_eq_some_iff.mp ex
          subst ev
          rw [List.length_map] at hi
          refine set_sl (σ' := [some (.ref l), some (.int 1), some (.int 0), some (.int (repI sw)), some (.ref q), some (.ref l), some (.int 0), some (.int 0), some (.ref a), some (.int (repI sw)), some (.ref wx)]) rfl ?_
          refine drop_un (app_un (te_var rfl) (SqL.of eF) (tup_un ((ta_cons (te_var rfl) (ta_cons (te_i0 (te_var rfl) te_c) (ta_cons (te_var rfl) ta_nil))) _ ⟨by show 3 ≤ sizeLine; decide, fun t ht => ?_⟩)))
          have sF2 : Same F (upd F t (.tup [.ref wx, .int (0 + 1), .int (repI sw)])) := Same.upd ht
          have et4 : upd F t (.tup [.ref wx, .int (0 + 1), .int (repI sw)]) t = some (.tup [.ref wx, .int (0 + 1), .int (repI sw)]) := upd_same
          show rAppend _ _ (upd F t (.tup [.ref wx, .int (0 + 1), .int (repI sw)])) _
          have eF2 := sF2 _ _ eF
          have eu2 := sF2 _ _ eu
          have tF2 : ∀ t ∈ us, ∃ w ∈ wl, upd F t (.tup [.ref wx, .int (0 + 1), .int (repI sw)]) t = some (.tup [.ref w, .int 1, .int (repI sw)]) ∨ True := fun t h => by
            obtain ⟨w, hw', e⟩ := tF t h
            exact ⟨w, hw', .inr trivial⟩
          have tF3 : ∀ b ∈ us, ∃ w ∈ wl, upd F t (.tup [.ref wx, .int (0 + 1), .int (repI sw)]) b = some (.tup [.ref w, .int 1, .int (repI sw)]) := fun b h => by
            obtain ⟨w, hw', e⟩ := tF b h
            exact ⟨w, hw', sF2 _ _ e⟩
          have sHF := sF.trans sF2
          generalize upd F t (.tup [.ref wx, .int (0 + 1), .int (repI sw)]) = F1 at et4 eF2 eu2 tF3 sHF ⊢
          have ntq : ∀ {b : Addr} {xs : List V}, F1 b = some (.tup xs) → b ≠ q := fun e z => by rw [z, eF2] at e; cases e
          refine ⟨q, _, .ref t, rfl, rfl, eF2, by rw [List.length_map, sizeLine_eq]; omega, ?_⟩
          refine ⟨fun b o e => ?_, by rw [upd_ne (ntq eu2)]; exact eu2, us ++ [t], by rw [List.length_append]; exact congrArg (· + 1) lu, by rw [upd_same, List.map_append]; rfl, fun b hb => ?_, _, rfl⟩
          · rw [upd_ne (npq e)]
            exact sHF _ _ e
          · rcases List.mem_append.mp hb with hb | hb
            · obtain ⟨w, hw', e⟩ := tF3 b hb
              exact ⟨w, hw', by rw [upd_ne (ntq e)]; exact e⟩
            · rw [List.mem_singleton.mp hb]
              exact ⟨wx, List.mem_of_getElem? ewx, by rw [upd_ne (ntq et4)]; exact et4⟩
        · rintro σ F ⟨sF, _, us, lu, eF, tF, v10, rfl⟩
          rw [List.length_map] at lu
          exact .inr ⟨rfl, sF, us, lu, eF, tF, _, _, _, _, _, _, rfl⟩
      · simp at hi
    · rintro σ G2 (⟨h, _⟩ | ⟨_, sF, us, lu, eF, tF, h⟩)
      · simp at h
      · exact ⟨us, 0, by omega, sF, eF, tF, .inr ⟨rfl, lu⟩, h⟩
  · rcases List.eq_nil_or_concat ts with rfl | ⟨ts0, t0, rfl⟩
    · refine ⟨_, rfl, false, .inl ⟨_, SqL.of eG, rfl⟩, ?_⟩
      refine (if_neg Bool.false_ne_true).mpr ?_
      refine ret_un (tup_un ((ta_cons (te_var rfl) (ta_cons (te_var rfl) (ta_cons (te_var rfl) ta_nil))) _ ⟨by show 3 ≤ sizeLine; decide, fun u hu => k u _ (sG.trans (Same.upd hu)) ?_⟩))
      have e : anyI wl = lv := by
        unfold anyI
        rcases hlv with ⟨rfl, h⟩ | ⟨rfl, h⟩
        · rw [if_neg h]
        · rw [if_pos (List.length_eq_zero_iff.mp h.symm)]
      rw [upd_same, e]
    · rw [List.concat_eq_append] at *
      rw [List.map_append] at eG
      refine ⟨_, rfl, true, .inl ⟨_, SqL.of eG, by simp⟩, ?_⟩
      refine (if_pos rfl).mpr ?_
      refine ⟨fun σ' H' => ∃ (ts : List Addr) (lv : Int), ts.length = ts0.length ∧ Same H H' ∧ H' q = some (.lst (ts.map V.ref)) ∧ (∀ t ∈ ts, ∃ w ∈ wl, H' t = some (.tup [.ref w, .int 1, .int (repI sw)])) ∧ ((lv = 1 ∧ wl ≠ []) ∨ (lv = 0 ∧ ts.length = wl.length)) ∧ ∃ v5 v6 v7 v8 v9 v10, σ' = [some (.ref l), some (.int 1), some (.int lv), some (.int (repI sw)), some (.ref q), v5, v6, v7, v8, v9, v10], fun σ' H' ⟨us, lv, h1, h2⟩ => ⟨us.length, by rw [List.length_append, h1]; exact Nat.lt_succ_self _, .inr ⟨us, lv, rfl, by rw [List.length_append] at hm; rw [h1]; exact Nat.le_trans (Nat.le_succ _) hm, h2⟩⟩, ?_⟩
      refine sq_go (go_popA (te_var rfl) eG ?_)
      obtain ⟨w0, hw0, et0⟩ := tG t0 (List.mem_append_right _ List.mem_cons_self)
      have nq : ∀ {b : Addr} {xs : List V}, G b = some (.tup xs) → b ≠ q := fun e z => by rw [z, eG] at e; cases e
      have sG1 : Same H (upd G q (.lst (ts0.map V.ref))) := fun b o e => by
        rw [upd_ne (npq e)]
        exact sG b o e
      have eG1 : upd G q (.lst (ts0.map V.ref)) q = some (.lst (ts0.map V.ref)) := upd_same
      have et1 : upd G q (.lst (ts0.map V.ref)) t0 = some (.tup [.ref w0, .int 1, .int (repI sw)]) := by rw [upd_ne (nq et0)]; exact et0
      have tG1 : ∀ t ∈ ts0, ∃ w ∈ wl, upd G q (.lst (ts0.map V.ref)) t = some (.tup [.ref w, .int 1, .int (repI sw)]) := fun t ht => by
        obtain ⟨w, hw', e⟩ := tG t (List.mem_append_left _ ht)
        exact ⟨w, hw', by rw [upd_ne (nq e)]; exact e⟩
      generalize upd G q (.lst (ts0.map V.ref)) = G1 at sG1 eG1 et1 tG1 ⊢
      have ew0 := sG1 _ _ (hw w0 hw0)
      refine ⟨t0, _, rfl, SqT.of et1, rfl, _, _, rfl, _, _, rfl, _, _, rfl, rfl, ?_⟩
      refine sq_go ?_
      refine ⟨_, rfl, te_len (te_var rfl) (.inl (SqL.of ew0)) _ ⟨_, _, rfl, rfl, ?_⟩⟩
      refine asg_te (te_max (te_var rfl) (te_var rfl)) ?_
      have el : (if (1 : Int) > lv then 1 else lv) = 1 := by
        rcases hlv with ⟨rfl, _⟩ | ⟨rfl, _⟩ <;> rfl
      rw [el]
      refine for_go (ti_list (te_var rfl) (SqL.of ew0)) (walk_list (K := K) (a := w0) (xs := [])) (fun i σ G2 => G2 = G1 ∧ ∃ v5 v6 v7 v8 v9 v10, σ = [some (.ref l), some (.int 1), some (.int 1), some (.int (repI sw)), some (.ref q), v5, v6, v7, v8, v9, v10]) ⟨rfl, _, _, _, _, _, _, rfl⟩ (fun i σ G _ h => by rw [h.1]; exact SqL.of ew0) (fun i x σ G G' hi _ _ => absurd hi (Nat.not_lt_zero _)) ?_
      rintro σ F ⟨rfl, h⟩
      exact ⟨ts0, 1, rfl, sG1, eG1, tG1, .inl ⟨rfl, fun z => by rw [z] at hw0; cases hw0⟩, h⟩
end
end K01

/-! d.items() of a dict with plain keys; list(d.items()) -/
namespace YF
open PySem PySem.Spec PyProof.Rows L2
section
variable {X : Cx}
def rItemsK : V → List V → Hp → VK → Prop := fun x xs H Q => ∃ (a : Addr) (kvs : List (Key × V)), x = .ref a ∧ xs = [] ∧ H a = some (.dK kvs) ∧ ∀ p, H p = none → Q (.ref p) (upd H p (DX.itemsO p a))
theorem mt_itemsK : MtR X "dict.items" rItemsK := by
  intro pins s σ H x xs v us Q I rx rxs h
  obtain ⟨a, kvs, rfl, rfl, ha, q⟩ := h
  cases rx
  cases rxs
  obtain ⟨z, hd, vs, rel, o, es, ep, ho, hx, hdat, _⟩ := dk_of I.hok ha
  refine DT.callItems (es := es) (ep := ep) hd ⟨o, ho, hx, hdat⟩ ?_
  have hf : H s.heap.objs.size = none := I.hok.fresh (Nat.le_refl _)
  exact ⟨.ref s.heap.objs.size, upd H s.heap.objs.size (DX.itemsO s.heap.objs.size a), I.laid (t' := s.toks) (fun b u e => Heap.get?_push_of_some _ e) (Nat.le_refl _) (DX.itemsO_ok (Heap.get?_push_size _ rfl)), rfl, q _ hf⟩
theorem rel_key {k : Key} {v : Value} (h : keyIs k v = true) : RelV (kV k) v := by
  rcases keyIs_shape h with ⟨i, t, ek, ev⟩ | ⟨z, t, ek, ev⟩
  · subst ek
    exact ⟨t, ev⟩
  · subst ek
    exact ⟨t, ev⟩
def rListIt : List V → Hp → VK → Prop := fun vs H Q => ∃ (p a : Addr) (kvs : List (Key × V)), vs = [.ref p] ∧ H p = some (DX.itemsO p a) ∧ H a = some (.dK kvs) ∧
  ∀ (H' : Hp) (l : Addr) (ps : List Addr), H l = none → (∀ b o, H b = some o → H' b = some o) → H' l = some (.lst (ps.map V.ref)) → ps.length = kvs.length → (∀ (j : Nat) (b : Addr), ps[j]? = some b → ∃ k v, kvs[j]? = some (k, v) ∧ H' b = some (.tup [kV k, v])) → Q (.ref l) H'
theorem call_listIt (hc : X.calm = true) : CallR X (.type "list") rListIt := by
  intro pins s σ H xs us Q I r h
  obtain ⟨p, a, kvs, rfl, hp, ha, q⟩ := h
  obtain rfl := Vals.ref1 r
  have view : s.heap.IsItemsView p a := (show ObjOk X.prog X.w H s.heap p (DX.itemsO p a) from I.hok p _ hp).1
  obtain ⟨z, lo, vs, rel, dd⟩ := dk_of I.hok ha
  obtain ⟨ep, hat⟩ := dd.dictAt
  have lv : vs.length = kvs.length := rel.length.symm
  have hn : vs.length ≤ sizeLine := by rw [lv]; exact z
  refine PySem.W.kdx_call (knd := mixKind X.prog X.w) (kvs := vs) (ep := ep) (I.ok.hd hc) view hat hn fun h' tk acc c as hk hD hl hG hacc => ?_
  have f0 : H s.heap.objs.size = none := I.hok.fresh (Nat.le_refl _)
  have vv : Vals (as.map V.ref) acc.toList := by
    rw [hacc]
    clear hacc hG hl
    induction as with
    | nil => exact .nil
    | cons b r ih => exact .cons rfl ih
  have I1 : Inv X pins σ (upd H s.heap.objs.size (.lst (as.map V.ref))) { s with heap := h', toks := tk } := I.laid (t' := tk) hk (Nat.le_refl _)
    (show ObjOk X.prog X.w _ _ _ (.lst (as.map V.ref)) from ⟨by rw [List.length_map, hl]; exact hn, acc.toList, c, vv, by rw [Array.toArray_toList]; exact hD⟩)
  have nd : as.Nodup := List.Pairwise.imp (fun h => Nat.ne_of_lt h) hG.rise
  obtain ⟨H2, I2, k2, q2⟩ := DX.takeT (P := fun b ws => ∃ (j : Nat) (k : Key) (v : V), as[j]? = some b ∧ kvs[j]? = some (k, v) ∧ ws = [kV k, v]) I as _ I1 nd fun b hb => by
    have ab := hG.above b hb
    refine ⟨Nat.le_of_lt ab, by rw [upd_ne (Nat.ne_of_gt ab)]; exact I.hok.fresh (Nat.le_of_lt ab), ?_⟩
    obtain ⟨j, hj⟩ := List.mem_iff_getElem?.mp hb
    obtain ⟨key, k, x, e1, e2, e3⟩ := hG.pairs j b hj
    obtain ⟨kv, f1, f2, f3⟩ := DX.pget rel e1
    have ek : kv.1 = k := f2
    refine ⟨[kV k, kv.2], ⟨j, k, kv.2, hj, by rw [f1, ← ek], rfl⟩, fun H2 => ?_⟩
    exact (show ObjOk X.prog X.w _ _ _ (.tup [kV k, kv.2]) from ⟨by show 2 ≤ sizeLine; decide, [key, x], .cons (rel_key e2) (.cons f3 .nil), _, e3, rfl, 0, rfl⟩)
  refine ⟨.ref s.heap.objs.size, H2, I2, rfl, q H2 _ as f0 (fun b o e => k2 b o (by rw [upd_ne (ne_of_none e f0)]; exact e)) (k2 _ _ upd_same) (by rw [hl, lv]) fun j b hj => ?_⟩
  obtain ⟨ws, ⟨i, k, v, i1, i2, rfl⟩, e⟩ := q2 b (List.mem_of_getElem? hj)
  have ij : i = j := by
    have hi := (List.getElem?_eq_some_iff.mp i1)
    have hj' := (List.getElem?_eq_some_iff.mp hj)
    obtain ⟨li, ei⟩ := hi
    obtain ⟨lj, ej⟩ := hj'
    rcases Nat.lt_trichotomy i j with h | h | h
    · have := List.pairwise_iff_getElem.mp hG.rise i j li lj h
      rw [ei, ej] at this
      exact absurd this (Nat.lt_irrefl _)
    · exact h
    · have := List.pairwise_iff_getElem.mp hG.rise j i lj li h
      rw [ei, ej] at this
      exact absurd this (Nat.lt_irrefl _)
  subst ij
  exact ⟨k, v, i2, e⟩
end
end YF

namespace K01
open PySem L2 YF YG
/-! ### the reader's objects -/
structure PlR where
  self : Addr
  dx : Addr
  pcl : Addr
  pdc : Addr
  pth : Addr
  pvr : Addr
  pls : Addr
def fldR (r : PlR) (nm : V) (st : Int) : List (Str × V) := [("cells", .ref r.pcl), ("declared", .ref r.pdc), ("threads", .ref r.pth), ("name", nm), ("variables", .ref r.pvr), ("statements", .int st), ("lists", .ref r.pls)]
def ownR (r : PlR) : List Addr := [r.self, r.pcl, r.pdc, r.pth, r.pvr, r.pls]
structure RdAt (A : Adr) (H : Hp) (r : PlR) (nm : V) (st : Int) (cl : List V) (dk : Kv) (th : List V) (vk : Kv) (ls : List V) : Prop where
  ob : H r.self = some (.ins A.a_Reader r.dx (fldR r nm st))
  cells : H r.pcl = some (.lst cl)
  decl : H r.pdc = some (.dK dk)
  thr : H r.pth = some (.lst th)
  var : H r.pvr = some (.dK vk)
  lis : H r.pls = some (.lst ls)
  tb : GxR.TabG H A.t_is_name
  n1 : r.pdc ≠ r.pvr
  n2 : r.pcl ≠ r.pth
  n3 : r.pcl ≠ r.pls
  n4 : r.pth ≠ r.pls
def fldO (hd : Str) (pr : Addr) (ib : Bool) : List (Str × V) := [("head", .str hd), ("rows", .ref pr), ("in_block", .bl ib), ("turn", .non), ("other", .non)]
def OlAt (A : Adr) (H : Hp) (po pr : Addr) (hd : Str) (ib : Bool) : Prop := ∃ dx, H po = some (.ins A.a_OpenList dx (fldO hd pr ib))
def spOlI (A : Adr) : Sp := fun ws H Q _ => ∃ (x dx pr : Addr) (hd : Str) (ib : Bool), ws = [.ref x, .str hd, .ref pr, .bl ib, .non, .non] ∧ H x = some (.ins A.a_OpenList dx []) ∧ ∀ H', (∀ b u, b ≠ x → H b = some u → H' b = some u) → OlAt A H' x pr hd ib → Q .non H'
def spThI (K : PySem.W.Frag) (A : Adr) : Sp := fun ws H Q _ => ∃ (x dx p1 p2 : Addr) (nm : V) (l1 l2 : List V), ws = [.ref x, nm, .ref p1, .ref p2] ∧ H x = some (.ins A.a_Thread dx []) ∧ H p1 = some (.lst l1) ∧ H p2 = some (.lst l2) ∧
  ∀ q1 q2 H', (∀ b u, b ≠ x → H b = some u → H' b = some u) → H q1 = none → H q2 = none → H' x = some (.ins A.a_Thread dx [("name", nm), ("variables", .ref q1), ("body", .ref q2)]) → H' q1 = some (.lst l1) → H' q2 = some (.lst l2) → Q .non H'
def spPrI (K : PySem.W.Frag) (A : Adr) : Sp := fun ws H Q _ => ∃ (x dx p1 p2 : Addr) (l1 l2 : List V), ws = [.ref x, .ref p1, .ref p2] ∧ H x = some (.ins A.a_Program dx []) ∧ H p1 = some (.lst l1) ∧ H p2 = some (.lst l2) ∧
  ∀ q1 q2 H', (∀ b u, b ≠ x → H b = some u → H' b = some u) → H' x = some (.ins A.a_Program dx [("cells", .ref q1), ("threads", .ref q2)]) → H' q1 = some (.lst l1) → H' q2 = some (.lst l2) → Q .non H'
def spRdI (A : Adr) : Sp := fun ws H Q _ => ∃ (x dx : Addr), ws = [.ref x] ∧ H x = some (.ins A.a_Reader dx []) ∧ GxR.TabG H A.t_is_name ∧
  ∀ r H', r.self = x → (∀ b u, b ≠ x → H b = some u → H' b = some u) → (∀ a ∈ ownR r, a ≠ x → H a = none) → RdAt A H' r .non 0 [] [] [] [] [] → Q .non H'
section
variable {P : Program} {w : World} {K : PySem.W.Frag} {mg : Str → Option Value} {base : Heap} {A : Adr}
theorem none_off {H G : Hp} {x l : Addr} (T : ∀ b u, b ≠ x → H b = some u → G b = some u) (h : G l = none) (n : l ≠ x) : H l = none := by
  cases e : H l with
  | none => rfl
  | some u =>
    rw [T l u n e] at h
    cases h
theorem ok_OpenList___init__ (T : Txt K mg A) : FnOk P w K mg base CX0 1 A.a_OpenList___init__ A.d_OpenList___init__ ["self", "head", "rows", "in_block", "turn", "other"] (spOlI A) := by
  refine T.K_OpenList___init__.ok sc_OpenList___init__ (fun ws H Q E ⟨_, _, _, _, _, e, _⟩ => by rw [e]; rfl) (fun cdv A' outer s H ws Q E hr h' => ?_)
  obtain ⟨x, dx, pr, hd, ib, rfl, hx, k⟩ := h'
  refine ⟨_, pss_cons (ps_fld (pv 0) (pv 1) rfl)
  (pss_cons (ps_fld (pv 0) (pv 2) rfl)
  (pss_cons (ps_fld (pv 0) (pv 3) rfl)
  (pss_cons (ps_fld (pv 0) (pv 4) rfl)
  (pss_one (ps_fld (pv 0) (pv 5) rfl))))), ?_⟩
  try dsimp only
  refine fset (fs := []) (v := .str hd) rfl hx T.cl_OpenList T.no_OpenList_head (by show 0 < 1000; decide) (te_var rfl) fun G1 ob1 S1 => ?_
  try dsimp only
  refine fset (fs := [("head", .str hd)]) (v := .ref pr) rfl ob1 T.cl_OpenList T.no_OpenList_rows (by show 1 < 1000; decide) (te_var rfl) fun G2 ob2 S2 => ?_
  try dsimp only
  refine fset (fs := [("head", .str hd), ("rows", .ref pr)]) (v := .bl ib) rfl ob2 T.cl_OpenList T.no_OpenList_in_block (by show 2 < 1000; decide) (te_var rfl) fun G3 ob3 S3 => ?_
  try dsimp only
  refine fset (fs := [("head", .str hd), ("rows", .ref pr), ("in_block", .bl ib)]) (v := .non) rfl ob3 T.cl_OpenList T.no_OpenList_turn (by show 3 < 1000; decide) (te_var rfl) fun G4 ob4 S4 => ?_
  try dsimp only
  refine fset (fs := [("head", .str hd), ("rows", .ref pr), ("in_block", .bl ib), ("turn", .non)]) (v := .non) rfl ob4 T.cl_OpenList T.no_OpenList_other (by show 4 < 1000; decide) (te_var rfl) fun G5 ob5 S5 => ?_
  exact k G5 (fun b u nb e => S5 b u nb (S4 b u nb (S3 b u nb (S2 b u nb (S1 b u nb e))))) ⟨dx, ob5⟩
theorem ok_Thread___init__ (T : Txt K mg A) : FnOk P w K mg base CX0 1 A.a_Thread___init__ A.d_Thread___init__ ["self", "name", "variables", "body"] (spThI K A) := by
  refine T.F_Thread___init__.ok sc_Thread___init__ (fun ws H Q E ⟨_, _, _, _, _, _, _, e, _⟩ => by rw [e]; rfl) (fun cdv A' outer s H ws Q E hr h' => ?_)
  obtain ⟨x, dx, p1, p2, nm, l1, l2, rfl, hx, h1, h2, k⟩ := h'
  refine ⟨_, pss_cons (ps_fld (pv 0) (pv 1) rfl)
  (pss_cons (ps_fld (pv 0) (pe_callTy call_list_of (by rfl) T.n_list (by decide +kernel) (pa_cons (pv 2) pa_nil)) rfl)
  (pss_one (ps_fld (pv 0) (pe_callTy call_list_of (by rfl) T.n_list (by decide +kernel) (pa_cons (pv 3) pa_nil)) rfl))), ?_⟩
  have nx : ∀ {b : Addr} {l : List V}, H b = some (.lst l) → b ≠ x := fun e z => by rw [z, hx] at e; cases e
  try dsimp only
  refine fset (fs := []) (v := nm) rfl hx T.cl_Thread T.no_Thread_name (by show 0 < 1000; decide) (te_var rfl) fun G1 ob1 S1 => ?_
  try dsimp only
  refine fnew (σ := [some (.ref x), some nm, some (.ref p1), some (.ref p2)]) (fs := [("name", nm)]) (o := .lst l1) rfl ob1 T.cl_Thread T.no_Thread_variables (by show 1 < 1000; decide) (fun R k => ⟨_, rfl, p1, l1, rfl, .inl (SqL.of (S1 _ _ (nx h1) h1)), k⟩) fun q1 G2 hq1 ob2 g1 S2 => ?_
  try dsimp only
  refine fnew (σ := [some (.ref x), some nm, some (.ref p1), some (.ref p2)]) (fs := [("name", nm), ("variables", .ref q1)]) (o := .lst l2) rfl ob2 T.cl_Thread T.no_Thread_body (by show 2 < 1000; decide) (fun R k => ⟨_, rfl, p2, l2, rfl, .inl (SqL.of (S2 _ _ (nx h2) (S1 _ _ (nx h2) h2))), k⟩) fun q2 G3 hq2 ob3 g2 S3 => ?_
  have n1 : q1 ≠ x := fun z => by rw [z, ob1] at hq1; cases hq1
  have n2 : q2 ≠ x := fun z => by rw [z, ob2] at hq2; cases hq2
  exact k q1 q2 G3 (fun b u nb e => S3 b u nb (S2 b u nb (S1 b u nb e))) (none_off S1 hq1 n1) (none_off (fun b u nb e => S2 b u nb (S1 b u nb e)) hq2 n2) ob3 (S3 _ _ n1 g1) g2
theorem ok_Program___init__ (T : Txt K mg A) : FnOk P w K mg base CX0 1 A.a_Program___init__ A.d_Program___init__ ["self", "cells", "threads"] (spPrI K A) := by
  refine T.F_Program___init__.ok sc_Program___init__ (fun ws H Q E ⟨_, _, _, _, _, _, e, _⟩ => by rw [e]; rfl) (fun cdv A' outer s H ws Q E hr h' => ?_)
  obtain ⟨x, dx, p1, p2, l1, l2, rfl, hx, h1, h2, k⟩ := h'
  refine ⟨_, pss_cons (ps_fld (pv 0) (pe_callTy call_list_of (by rfl) T.n_list (by decide +kernel) (pa_cons (pv 1) pa_nil)) rfl)
  (pss_one (ps_fld (pv 0) (pe_callTy call_list_of (by rfl) T.n_list (by decide +kernel) (pa_cons (pv 2) pa_nil)) rfl)), ?_⟩
  have nx : ∀ {b : Addr} {l : List V}, H b = some (.lst l) → b ≠ x := fun e z => by rw [z, hx] at e; cases e
  try dsimp only
  refine fnew (σ := [some (.ref x), some (.ref p1), some (.ref p2)]) (fs := []) (o := .lst l1) rfl hx T.cl_Program T.no_Program_cells (by show 0 < 1000; decide) (fun R k => ⟨_, rfl, p1, l1, rfl, .inl (SqL.of h1), k⟩) fun q1 G2 hq1 ob2 g1 S2 => ?_
  try dsimp only
  refine fnew (σ := [some (.ref x), some (.ref p1), some (.ref p2)]) (fs := [("cells", .ref q1)]) (o := .lst l2) rfl ob2 T.cl_Program T.no_Program_threads (by show 1 < 1000; decide) (fun R k => ⟨_, rfl, p2, l2, rfl, .inl (SqL.of (S2 _ _ (nx h2) h2)), k⟩) fun q2 G3 hq2 ob3 g2 S3 => ?_
  have n1 : q1 ≠ x := fun z => by rw [z, hx] at hq1; cases hq1
  exact k q1 q2 G3 (fun b u nb e => S3 b u nb (S2 b u nb e)) ob3 (S3 _ _ n1 g1) g2
theorem ok_Reader___init__ (T : Txt K mg A) : FnOk P w K mg base CX0 1 A.a_Reader___init__ A.d_Reader___init__ ["self"] (spRdI A) := by
  refine T.F_Reader___init__.ok sc_Reader___init__ (fun ws H Q E ⟨_, _, e, _⟩ => by rw [e]; rfl) (fun cdv A' outer s H ws Q E hr h' => ?_)
  obtain ⟨x, dx, rfl, hx, ⟨ps, t1, t2⟩, k⟩ := h'
  refine ⟨_, pss_cons (ps_fld (pv 0) (pe_lst pa_nil) rfl)
  (pss_cons (ps_fld (pv 0) (pe_dnewK) rfl)
  (pss_cons (ps_fld (pv 0) (pe_lst pa_nil) rfl)
  (pss_cons (ps_fld (pv 0) (pe_non) rfl)
  (pss_cons (ps_fld (pv 0) (pe_dnewK) rfl)
  (pss_cons (ps_fld (pv 0) (pe_int) rfl)
  (pss_one (ps_fld (pv 0) (pe_lst pa_nil) rfl))))))), ?_⟩
  try dsimp only
  refine fnew (σ := [some (.ref x)]) (fs := []) (o := .lst []) rfl hx T.cl_Reader T.no_Reader_cells (by show 0 < 1000; decide) (fun R k => ⟨Nat.zero_le _, k⟩) fun q1 G1 hq1 ob1 g1 S1 => ?_
  have n1 : q1 ≠ x := fun z => by rw [z, hx] at hq1; cases hq1
  try dsimp only
  refine fnew (σ := [some (.ref x)]) (fs := [("cells", .ref q1)]) (o := .dK []) rfl ob1 T.cl_Reader T.no_Reader_declared (by show 1 < 1000; decide) (fun R k => k) fun q2 G2 hq2 ob2 g2 S2 => ?_
  have n2 : q2 ≠ x := fun z => by rw [z, ob1] at hq2; cases hq2
  have T2 : ∀ b u, b ≠ x → H b = some u → G2 b = some u := fun b u nb e => S2 b u nb (S1 b u nb e)
  try dsimp only
  refine fnew (σ := [some (.ref x)]) (fs := [("cells", .ref q1), ("declared", .ref q2)]) (o := .lst []) rfl ob2 T.cl_Reader T.no_Reader_threads (by show 2 < 1000; decide) (fun R k => ⟨Nat.zero_le _, k⟩) fun q3 G3 hq3 ob3 g3 S3 => ?_
  have n3 : q3 ≠ x := fun z => by rw [z, ob2] at hq3; cases hq3
  have T3 : ∀ b u, b ≠ x → H b = some u → G3 b = some u := fun b u nb e => S3 b u nb (T2 b u nb e)
  try dsimp only
  refine fset (fs := [("cells", .ref q1), ("declared", .ref q2), ("threads", .ref q3)]) (v := .non) rfl ob3 T.cl_Reader T.no_Reader_name (by show 3 < 1000; decide) te_c fun G4 ob4 S4 => ?_
  have T4 : ∀ b u, b ≠ x → H b = some u → G4 b = some u := fun b u nb e => S4 b u nb (T3 b u nb e)
  try dsimp only
  refine fnew (σ := [some (.ref x)]) (fs := [("cells", .ref q1), ("declared", .ref q2), ("threads", .ref q3), ("name", .non)]) (o := .dK []) rfl ob4 T.cl_Reader T.no_Reader_variables (by show 4 < 1000; decide) (fun R k => k) fun q5 G5 hq5 ob5 g5 S5 => ?_
  have n5 : q5 ≠ x := fun z => by rw [z, ob4] at hq5; cases hq5
  have T5 : ∀ b u, b ≠ x → H b = some u → G5 b = some u := fun b u nb e => S5 b u nb (T4 b u nb e)
  try dsimp only
  refine fset (fs := [("cells", .ref q1), ("declared", .ref q2), ("threads", .ref q3), ("name", .non), ("variables", .ref q5)]) (v := .int 0) rfl ob5 T.cl_Reader T.no_Reader_statements (by show 5 < 1000; decide) te_c fun G6 ob6 S6 => ?_
  have T6 : ∀ b u, b ≠ x → H b = some u → G6 b = some u := fun b u nb e => S6 b u nb (T5 b u nb e)
  try dsimp only
  refine fnew (σ := [some (.ref x)]) (fs := [("cells", .ref q1), ("declared", .ref q2), ("threads", .ref q3), ("name", .non), ("variables", .ref q5), ("statements", .int 0)]) (o := .lst []) rfl ob6 T.cl_Reader T.no_Reader_lists (by show 6 < 1000; decide) (fun R k => ⟨Nat.zero_le _, k⟩) fun q7 G7 hq7 ob7 g7 S7 => ?_
  have n7 : q7 ≠ x := fun z => by rw [z, ob6] at hq7; cases hq7
  have T7 : ∀ b u, b ≠ x → H b = some u → G7 b = some u := fun b u nb e => S7 b u nb (T6 b u nb e)
  have d37 : q3 ≠ q7 := fun z => by rw [← z, S6 _ _ n3 (S5 _ _ n3 (S4 _ _ n3 g3))] at hq7; cases hq7
  have d17 : q1 ≠ q7 := fun z => by rw [← z, S6 _ _ n1 (S5 _ _ n1 (S4 _ _ n1 (S3 _ _ n1 (S2 _ _ n1 g1))))] at hq7; cases hq7
  have d13 : q1 ≠ q3 := fun z => by rw [← z, S2 _ _ n1 g1] at hq3; cases hq3
  have d25 : q2 ≠ q5 := fun z => by rw [← z, S4 _ _ n2 (S3 _ _ n2 g2)] at hq5; cases hq5
  refine k ⟨x, dx, q1, q2, q3, q5, q7⟩ G7 rfl T7 (fun a ha na => ?_) ⟨ob7, S7 _ _ n1 (S6 _ _ n1 (S5 _ _ n1 (S4 _ _ n1 (S3 _ _ n1 (S2 _ _ n1 g1))))), S7 _ _ n2 (S6 _ _ n2 (S5 _ _ n2 (S4 _ _ n2 (S3 _ _ n2 g2)))), S7 _ _ n3 (S6 _ _ n3 (S5 _ _ n3 (S4 _ _ n3 g3))), S7 _ _ n5 (S6 _ _ n5 g5), g7, ⟨ps, T7 _ _ (fun z => by rw [z, hx] at t1; cases t1) t1, t2⟩, d25, d13, d17, d37⟩
  simp only [ownR, List.mem_cons, List.not_mem_nil, or_false] at ha
  rcases ha with rfl | rfl | rfl | rfl | rfl | rfl
  · exact absurd rfl na
  · exact hq1
  · exact none_off S1 hq2 na
  · exact none_off T2 hq3 na
  · exact none_off T4 hq5 na
  · exact none_off T6 hq7 na
end
end K01

namespace K01
open PySem L2 YF YG
open C8 (tCut)
/-! ### what the reader does -/
section
variable {A : Adr} {H H' : Hp} {r : PlR} {nm : V} {st : Int} {cl : List V} {dk : Kv} {th : List V} {vk : Kv} {ls : List V}
theorem RdAt.ns (R : RdAt A H r nm st cl dk th vk ls) {a : Addr} {o : HO} (e : H a = some o) (n : ∀ C d f, o ≠ .ins C d f) : a ≠ r.self := fun z => by
  rw [z, R.ob] at e
  exact n _ _ _ (Option.some.inj e).symm
theorem RdAt.kept {C : List Addr} (R : RdAt A H r nm st cl dk th vk ls) (k : Kept C H H') (n : ∀ a ∈ ownR r, a ∉ C) (t : GxR.TabG H' A.t_is_name) : RdAt A H' r nm st cl dk th vk ls :=
  ⟨k _ _ (n _ (by simp [ownR])) R.ob, k _ _ (n _ (by simp [ownR])) R.cells, k _ _ (n _ (by simp [ownR])) R.decl, k _ _ (n _ (by simp [ownR])) R.thr, k _ _ (n _ (by simp [ownR])) R.var, k _ _ (n _ (by simp [ownR])) R.lis, t, R.n1, R.n2, R.n3, R.n4⟩
theorem RdAt.same (R : RdAt A H r nm st cl dk th vk ls) (s : Same H H') : RdAt A H' r nm st cl dk th vk ls := ⟨s _ _ R.ob, s _ _ R.cells, s _ _ R.decl, s _ _ R.thr, s _ _ R.var, s _ _ R.lis, TabG.same R.tb s, R.n1, R.n2, R.n3, R.n4⟩
theorem RdAt.tns (R : RdAt A H r nm st cl dk th vk ls) : ∀ a ∈ ownR r, a ≠ A.t_is_name := fun a ha z => by
  obtain ⟨ps, t, _⟩ := R.tb
  have h1 := R.ob
  have h2 := R.cells
  have h3 := R.decl
  have h4 := R.thr
  have h5 := R.var
  have h6 := R.lis
  simp only [ownR, List.mem_cons, List.not_mem_nil, or_false] at ha
  rcases ha with rfl | rfl | rfl | rfl | rfl | rfl
  · rw [z, t] at h1; cases h1
  · rw [z, t] at h2; cases h2
  · rw [z, t] at h3; cases h3
  · rw [z, t] at h4; cases h4
  · rw [z, t] at h5; cases h5
  · rw [z, t] at h6; cases h6
/-- name and count -/
theorem RdAt.setN (R : RdAt A H r nm st cl dk th vk ls) (nm' : V) (st' : Int) : RdAt A (upd H r.self (.ins A.a_Reader r.dx (fldR r nm' st'))) r nm' st' cl dk th vk ls :=
  ⟨upd_same, upd_off R.cells (R.ns R.cells (by intro _ _ _ z; cases z)), upd_off R.decl (R.ns R.decl (by intro _ _ _ z; cases z)), upd_off R.thr (R.ns R.thr (by intro _ _ _ z; cases z)), upd_off R.var (R.ns R.var (by intro _ _ _ z; cases z)), upd_off R.lis (R.ns R.lis (by intro _ _ _ z; cases z)), TabG.off R.tb (fun z => R.tns _ (by simp [ownR]) z.symm), R.n1, R.n2, R.n3, R.n4⟩
/-- other variables -/
theorem RdAt.setV (R : RdAt A H r nm st cl dk th vk ls) {q : Addr} {vk' : Kv} (hq : H q = some (.dK vk')) (n : r.pdc ≠ q) : RdAt A (upd H r.self (.ins A.a_Reader r.dx (fldR { r with pvr := q } nm st))) { r with pvr := q } nm st cl dk th vk' ls :=
  ⟨upd_same, upd_off R.cells (R.ns R.cells (by intro _ _ _ z; cases z)), upd_off R.decl (R.ns R.decl (by intro _ _ _ z; cases z)), upd_off R.thr (R.ns R.thr (by intro _ _ _ z; cases z)), upd_off hq (R.ns hq (by intro _ _ _ z; cases z)), upd_off R.lis (R.ns R.lis (by intro _ _ _ z; cases z)), TabG.off R.tb (fun z => R.tns _ (by simp [ownR]) z.symm), n, R.n2, R.n3, R.n4⟩
/-- other lists -/
theorem RdAt.setL (R : RdAt A H r nm st cl dk th vk ls) {q : Addr} {ls' : List V} (hq : H q = some (.lst ls')) (n : r.pcl ≠ q) (n' : r.pth ≠ q) : RdAt A (upd H r.self (.ins A.a_Reader r.dx (fldR { r with pls := q } nm st))) { r with pls := q } nm st cl dk th vk ls' :=
  ⟨upd_same, upd_off R.cells (R.ns R.cells (by intro _ _ _ z; cases z)), upd_off R.decl (R.ns R.decl (by intro _ _ _ z; cases z)), upd_off R.thr (R.ns R.thr (by intro _ _ _ z; cases z)), upd_off R.var (R.ns R.var (by intro _ _ _ z; cases z)), upd_off hq (R.ns hq (by intro _ _ _ z; cases z)), TabG.off R.tb (fun z => R.tns _ (by simp [ownR]) z.symm), R.n1, R.n2, n, n'⟩
end
/-- the list that is open last -/
def spMay (A : Adr) : Sp := fun ws H Q _ => ∃ (r : PlR) (nm : V) (st : Int) (cl : List V) (dk : Kv) (th : List V) (vk : Kv) (ls : List V) (z : Str), ws = [.ref r.self, .str z] ∧ RdAt A H r nm st cl dk th vk ls ∧
  ((ls = [] ∧ (z = "thread" ∨ (z = "cell" ∧ th = []))) ∨ ∃ l0 po pr xs hd ib, ls = l0 ++ [.ref po] ∧ OlAt A H po pr hd ib ∧ H pr = some (.lst xs) ∧ (z = "end" ∨ (z = "local" ∧ hd = "thread" ∧ xs = []) ∨ Stand ib z)) ∧ ∀ H', Same H H' → Q (.bl true) H'
section
variable {P : Program} {w : World} {K : PySem.W.Frag} {mg : Str → Option Value} {base : Heap} {A : Adr}
theorem bd_OpenList___init___3 (T : Txt K mg A) : ∃ ds, Vals [.non, .non] ds ∧ Binds K A.d_OpenList___init__ ["self", "head", "rows", "in_block", "turn", "other"] ds := T.K_OpenList___init__.binds1 4 0 (by simp) rfl fun Tt kV doc pm an cdv ct us its l1 l2 => by
  match us, its, l1, l2 with
  | [u1, u2, u3, u4], [i, j], _, _ => exact ⟨_, rfl, rfl⟩
theorem tt_tru {σ : L2.St} {H : Hp} {te : TE} {a : Addr} {xs : List V} (h : Te te σ H (.ref a)) (e : H a = some (.lst xs)) : Tt (fun σ H Q => te σ H fun x H' => ∃ k, TruV K x H' k ∧ Q k H') σ H (!xs.isEmpty) := fun Q q => h _ ⟨_, .inl ⟨_, SqL.of e, rfl⟩, q⟩
theorem te_notT {σ : L2.St} {H : Hp} {te : TE} {a : Addr} {xs : List V} (h : Te te σ H (.ref a)) (e : H a = some (.lst xs)) : Te (tNotT K te) σ H (.bl xs.isEmpty) := fun Q q => h _ ⟨_, .inl ⟨_, SqL.of e, rfl⟩, by
  rw [Bool.not_not]
  exact q⟩
theorem te_last {σ : L2.St} {H : Hp} {ta tb : TE} {p : Addr} {l0 : List V} {v : V} (ha : Te ta σ H (.ref p)) (hb : Te tb σ H (.int (-1))) (h : SqL K H p (l0 ++ [v])) : Te (tOp (rIxL K) ta tb) σ H v := te_ixL ha hb h (atI_neg1 (n := l0.length) (by simp) (by simp))
theorem or_go {σ : L2.St} {H : Hp} {ta tb : TE} {Q : VK} (ha : Te ta σ H (.bl false)) (h : tb σ H Q) : tOrV ta tb σ H Q := ha _ ⟨false, rfl, h⟩
theorem and_go {σ : L2.St} {H : Hp} {ta tb : TE} {Q : VK} (ha : Te ta σ H (.bl true)) (h : tb σ H Q) : tAndV ta tb σ H Q := ha _ ⟨true, rfl, h⟩
def spDecl : Sp := fun ws H Q _ => ws = [.str "cell"] ∧ ∀ H', Same H H' → Q (.bl true) H'
theorem ok_may_declare (T : Txt K mg A) : FnOk P w K mg base CX0 1 A.a_may_declare A.d_may_declare ["word"] spDecl := by
  refine T.F_may_declare.ok sc_may_declare (fun ws H Q E ⟨e, _⟩ => by rw [e]; rfl) (fun cdv A' outer s H ws Q E hr h' => ?_)
  obtain ⟨rfl, k⟩ := h'
  refine ⟨_, pss_one (ps_ret (pe_cmpR op_in_seq (pv 0) (pe_tup (pa_cons (pe_str) (pa_cons (pe_str) (pa_cons (pe_str) (pa_cons (pe_str) (pa_cons (pe_str) pa_nil)))))) (by rfl))), ?_⟩
  refine ret_un (op_un (Te.go (te_var rfl) (tup_un ((ta_cons te_c (ta_cons te_c (ta_cons te_c (ta_cons te_c (ta_cons te_c ta_nil))))) _ ⟨by show 5 ≤ sizeLine; decide, fun p hp => ⟨p, _, rfl, .inr (SqT.of upd_same), rfl, rfl, ?_⟩⟩))))
  exact k _ (Same.upd hp)
theorem ok_Reader_may_begin (FT : FmT K w A) (T : Txt K mg A) : FnOk P w K mg base CX0 2 A.a_Reader_may_begin A.d_Reader_may_begin ["self", "word"] (spMay A) := by
  refine T.F_Reader_may_begin.ok (k := 1) sc_Reader_may_begin (fun ws H Q E ⟨_, _, _, _, _, _, _, _, _, e, _⟩ => by rw [e]; rfl) (fun cdv A' outer s H ws Q E hr h' => ?_)
  obtain ⟨r, nm, st, cl, dk, th, vk, ls, z, rfl, R, h, k⟩ := h'
  refine ⟨_, pss_cons (ps_if (pt_not (pt_truth (pe_fld (pv 0) rfl) (by intro _; rfl)))
  (pss_one (ps_ret (pe_or (pe_cmpR op_eq (pv 1) (pe_str) (nomark _)) (pe_one (pe_and (pe_notT (pe_fld (pv 0) rfl)) (pe_one (pe_call (ok_may_declare T) (hr.mono (by decide)) rfl T.g_may_declare T.F_may_declare.kp T.b_may_declare .nil pass0 (pa_cons (pv 1) pa_nil))))))))
  (pss_nil))
  (pss_cons (ps_set (i := 2) sc_Reader_may_begin.nd rfl (Or.inl rfl) (pe_ix ix_list (pe_fld (pv 0) rfl) (pe_un un_neg pe_int) (fun _ _ => rfl)))
  (pss_cons (ps_if (pt_cmpR op_eq (pv 1) (pe_str) (nomark _))
  (pss_one (ps_ret (pe_cmpR op_ne (pe_fld (pv 2) rfl) (pe_str) (nomark _))))
  (pss_nil))
  (pss_cons (ps_if (pt_cmpR op_eq (pv 1) (pe_str) (nomark _))
  (pss_one (ps_ret (pe_and (pe_cmpR op_eq (pe_fld (pv 2) rfl) (pe_str) (nomark _)) (pe_one (pe_notT (pe_fld (pv 2) rfl))))))
  (pss_nil))
  (pss_one (ps_ret (pe_or (pe_cmpR op_eq (pv 1) (pe_fld (pv 2) rfl) (nomark _)) (pe_one (pe_call (ok_may_stand FT T) (hr.mono (by decide)) rfl T.g_may_stand T.F_may_stand.kp T.b_may_stand .nil pass0 (pa_cons (pv 1) (pa_cons (pe_fld (pv 2) rfl) pa_nil)))))))))), ?_⟩
  refine if_seq (tt_not (tt_tru (te_fld (te_var rfl) R.ob T.cl_Reader T.no_Reader_lists rfl) R.lis)) (fun ht => ?_) fun ht => ?_
  · rcases h with ⟨rfl, rfl | ⟨rfl, rfl⟩⟩ | ⟨l0, po, pr, xs, hd, ib, rfl, _⟩
    · exact ret_te (te_orV (a := true) (b := true) (te_eqT (te_var rfl) te_c rfl) fun z => nomatch z) (k _ (Same.refl _))
    · exact ret_un (or_go (te_eqF (x := .str "cell") (te_var rfl) te_c rfl (by decide)) (and_go (te_notT (te_fld (te_var rfl) R.ob T.cl_Reader T.no_Reader_threads rfl) R.thr) (go_call (ta1 (te_var rfl)) ⟨rfl, k⟩)))
    · simp at ht
  · rcases h with ⟨rfl, _⟩ | ⟨l0, po, pr, xs, hd, ib, rfl, ⟨dxo, ho⟩, hx, hz⟩
    · cases ht
    · refine asg_te (te_last (te_fld (te_var rfl) R.ob T.cl_Reader T.no_Reader_lists rfl) (te_neg te_c) (SqL.of R.lis)) ?_
      refine set_sl (σ' := [some (.ref r.self), some (.str z), some (.ref po)]) rfl ?_
      refine if_seq (tt_test (te_eq (te_var rfl) te_c rfl)) (fun h1 => ?_) fun h1 => ?_
      · exact ret_te (te_ne (te_fld (te_var rfl) ho T.cl_OpenList T.no_OpenList_turn rfl) te_c rfl) (k _ (Same.refl _))
      · have h1 := of_decide_eq_false h1
        refine if_seq (tt_test (te_eq (te_var rfl) te_c rfl)) (fun h2 => ?_) fun h2 => ?_
        · have h2 := V.str.inj (of_decide_eq_true h2)
          have xe : hd = "thread" ∧ xs = [] := by
            rcases hz with h | ⟨_, h⟩ | h
            · rw [h] at h2; exact absurd h2 (by decide)
            · exact h
            · rcases h with ⟨_, h⟩ | ⟨_, h⟩ <;> (rw [h] at h2; exact absurd h2 (by decide))
          obtain ⟨rfl, rfl⟩ := xe
          exact ret_te (te_andV (a := true) (b := true) (te_eqT (te_fld (te_var rfl) ho T.cl_OpenList T.no_OpenList_head rfl) te_c rfl) fun _ => te_notT (te_fld (te_var rfl) ho T.cl_OpenList T.no_OpenList_rows rfl) hx) (k _ (Same.refl _))
        · have h2 := of_decide_eq_false h2
          have ez : Stand ib z := by
            rcases hz with h | ⟨h, _⟩ | h
            · exact absurd (by rw [h]) h1
            · exact absurd (by rw [h]) h2
            · exact h
          exact ret_te (te_orV (a := false) (b := true) (te_eqF (x := .str z) (y := .non) (te_var rfl) (te_fld (te_var rfl) ho T.cl_OpenList T.no_OpenList_turn rfl) rfl (by intro z; cases z)) fun _ => te_call (ta_cons (te_var rfl) (ta_cons (te_fld (te_var rfl) ho T.cl_OpenList T.no_OpenList_in_block rfl) ta_nil)) fun Q q => ⟨ib, z, rfl, ez, q⟩) (k _ (Same.refl _))
end
end K01

namespace K01
open PySem L2 YF YG
open C8 (tCut)
theorem Kept.more {C D : List Addr} {H H' : Hp} (k : Kept C H H') (h : ∀ a ∈ C, a ∈ D) : Kept D H H' := fun b o n e => k b o (fun z => n (h b z)) e
theorem Kept.fresh {C : List Addr} {H H1 H2 : Hp} {x : Addr} (k : Kept C H H1) (hx : H x = none) (s : ∀ b u, b ≠ x → H1 b = some u → H2 b = some u) : Kept C H H2 := fun b o n e => s b o (fun z => by rw [z, hx] at e; cases e) (k b o n e)
theorem same_none {H H' : Hp} {a : Addr} (s : Same H H') (e : H' a = none) : H a = none := by
  cases h : H a with
  | none => rfl
  | some o => rw [s _ _ h] at e; cases e
theorem Kept.none {C : List Addr} {H H' : Hp} {a : Addr} (k : Kept C H H') (n : a ∉ C) (e : H' a = none) : H a = none := by
  cases h : H a with
  | none => rfl
  | some o => rw [k _ _ n h] at e; cases e
theorem RdAt.nOwn {A : Adr} {H : Hp} {r : PlR} {nm : V} {st : Int} {cl : List V} {dk : Kv} {th : List V} {vk : Kv} {ls : List V} {q : Addr} (R : RdAt A H r nm st cl dk th vk ls) (hq : H q = none) : q ∉ ownR r := fun z => by
  have l1 := R.ob
  have l2 := R.cells
  have l3 := R.decl
  have l4 := R.thr
  have l5 := R.var
  have l6 := R.lis
  simp only [ownR, List.mem_cons, List.not_mem_nil, or_false] at z
  rcases z with rfl | rfl | rfl | rfl | rfl | rfl
  · rw [hq] at l1; cases l1
  · rw [hq] at l2; cases l2
  · rw [hq] at l3; cases l3
  · rw [hq] at l4; cases l4
  · rw [hq] at l5; cases l5
  · rw [hq] at l6; cases l6
theorem make_un {σ : L2.St} {H : Hp} {C : Addr} {sp : Sp} {E : XK} {ta : TA} {dvs : List V} {Q : VK} (h : ta σ H fun vs H1 => ∀ x dx, H1 x = none → H1 dx = none → dx ≠ x → sp (.ref x :: (vs ++ dvs)) (upd (upd H1 dx (.own x)) x (.ins C dx [])) (fun v H2 => v = .non ∧ Q (.ref x) H2) E) : tMake C sp dvs E ta σ H Q := h
def Al (H H' : Hp) : Prop := ∀ a, H' a = none → H a = none
theorem Al.of {H H' : Hp} (s : Same H H') : Al H H' := fun a e => same_none s e
theorem Al.trans {H H' H'' : Hp} (h : Al H H') (h' : Al H' H'') : Al H H'' := fun a e => h a (h' a e)
theorem Al.upd {H H' : Hp} {a : Addr} {o : HO} (h : Al H H') : Al H (upd H' a o) := fun b e => by
  by_cases z : b = a
  · rw [z, upd_same] at e; cases e
  · rw [upd_ne z] at e
    exact h b e
theorem LnAt.al {A : Adr} {H H' : Hp} {p : PlL} {ts : List Tk} {cs vs : List Str} {pl mo : Nat} (L : LnAt A H' p ts cs vs pl mo) (k : Kept (CL A p) H H') : Al H H' := fun a e => k.none (LnAt.nCL (X := ⟨ts, cs, vs, true⟩) L e) e
section
variable {P : Program} {w : World} {K : PySem.W.Frag} {mg : Str → Option Value} {base : Heap} {A : Adr}
theorem LnAt.offI {H : Hp} {p : PlL} {ts : List Tk} {cs vs : List Str} {pl mo : Nat} {a C dx : Addr} {fs : List (Str × V)} {o : HO} (L : LnAt A H p ts cs vs pl mo) (e : H a = some (.ins C dx fs)) (n : a ≠ p.self) : LnAt A (upd H a o) p ts cs vs pl mo := by
  obtain ⟨us, e1, e2⟩ := L.fd
  obtain ⟨kv, e3, e4⟩ := L.hc
  obtain ⟨kw, e5, e6⟩ := L.hv
  have ne : ∀ {b : Addr} {u : HO}, H b = some u → (∀ C d f, u ≠ .ins C d f) → b ≠ a := fun {b u} h q z => by
    rw [z, e] at h
    exact q _ _ _ (Option.some.inj h).symm
  obtain ⟨ps, t1, t2⟩ := L.tb
  exact ⟨upd_off L.ob n.symm, ⟨us, upd_off e1 (ne e1 (by intro _ _ _ z; cases z)), paired_mapP e2 fun t v ⟨b, f1, f2⟩ => ⟨b, f1, upd_off f2 (ne f2 (by intro _ _ _ z; cases z))⟩⟩, ⟨kv, upd_off e3 (ne e3 (by intro _ _ _ z; cases z)), e4⟩, ⟨kw, upd_off e5 (ne e5 (by intro _ _ _ z; cases z)), e6⟩, ⟨ps, upd_off t1 (ne t1 (by intro _ _ _ z; cases z)), t2⟩, L.le⟩
theorem st_fld {σ : L2.St} {H : Hp} {te : TE} {D : Ends} {j : Nat} {a C dx : Addr} {f : Str} {fs : List (Str × V)} {v : V} (h : Te te σ H v) (hp : σ[j]? = some (some (.ref a))) (e : H a = some (.ins C dx fs)) (c : Cls K C) (n : NoAttr K C f) (l : fs.length < 1000) (r : D.nx σ (upd H a (.ins C dx (putF f v fs)))) : sFld K (tVar j) te f D σ H :=
  h _ ⟨_, hp, a, C, dx, fs, rfl, e, c, n, l, r⟩
theorem go_makeD {σ : L2.St} {H : Hp} {C : Addr} {sp : Sp} {E : XK} {ta : TA} {vs dvs : List V} {Q : VK} (ha : Ta ta σ H vs) (k : ∀ x dx, H x = none → H dx = none → dx ≠ x → sp (.ref x :: (vs ++ dvs)) (upd (upd H dx (.own x)) x (.ins C dx [])) (fun v H2 => v = .non ∧ Q (.ref x) H2) E) : tMake C sp dvs E ta σ H Q := ha _ k
def spBT (A : Adr) : Sp := fun ws H Q _ => ∃ (r : PlR) (nm : V) (st : Int) (cl : List V) (dk : Kv) (vk : Kv) (p : PlL) (ts : List Tk) (cs vs : List Str) (pl mo : Nat), ws = [.ref r.self, .ref p.self] ∧ RdAt A H r nm st cl dk [] vk [] ∧ LnAt A H p ts cs vs pl mo ∧ p.self ∉ ownR r ∧ NameOk (tx ts pl) ∧ pl + 1 = ts.length ∧
  ∀ (r' : PlR) (po pr : Addr) (H' : Hp), r'.self = r.self → (∀ a ∈ ownR r', a ∈ ownR r ∨ H a = none) → H po = none → H pr = none → po ∉ ownR r' → pr ∉ ownR r' → Kept (ownR r ++ CL A p) H H' → RdAt A H' r' (.str (tx ts pl)) 0 cl dk [] [] [.ref po] → OlAt A H' po pr "thread" false → H' pr = some (.lst []) → Q .non H'
theorem ok_Reader_begin_thread (TB : GxR.TabB base mg A.c_is_name A.t_is_name) (T : Txt K mg A) : FnOk P w K mg base CX0 6 A.a_Reader_begin_thread A.d_Reader_begin_thread ["self", "line"] (spBT A) := by
  refine T.F_Reader_begin_thread.ok (k := 5) sc_Reader_begin_thread (fun ws H Q E ⟨_, _, _, _, _, _, _, _, _, _, _, _, e, _⟩ => by rw [e]; rfl) (fun cdv A' outer s H ws Q E hr h' => ?_)
  obtain ⟨r, nm, st, cl, dk, vk, p, ts, cs, vs, pl, mo, rfl, R, L, np, nok, len, k⟩ := h'
  refine ⟨_, pss_cons (ps_fld (pv 0) (pe_meth (pv 1) T.cl_Line T.m_Line_take_new_name (ok_Line_take_new_name TB T) (hr.mono (by decide)) T.b_Line_take_new_name .nil pass0 (pa_cons (pe_lc (own := [("thread", 2)]) (g := gName 2) (tt := tYes) rfl sc_Reader_begin_thread.nd (pi_list (pe_fld (pv 0) rfl)) (blkOk_by (N := ["self", "line", "thread"]) (sc := defScope s_Reader_begin_thread) (by decide +kernel)) (fun _ _ _ _ _ => pg_name (i := 2) sc_Reader_begin_thread.nd rfl (Or.inl rfl)) (fun _ _ _ _ _ => pts_nil) (fun _ _ _ _ _ => (show PE _ _ (tFld K _ _) from pe_fld (pv 2) rfl))) pa_nil)) rfl)
  (pss_cons (ps_expr (pe_meth0 (pv 1) T.cl_Line T.m_Line_finish (ok_Line_finish T) (hr.mono (by decide)) T.b_Line_finish .nil pass0))
  (C8.pss_cut (ps_if (pt_cmpR op_eq (pe_callB call_len_seq (by rfl) T.n_len (by decide +kernel) (pa_cons (pe_fld (pv 0) rfl) pa_nil)) (pe_glob (v := .int 6) rfl T.g_MOST_THREADS ⟨_, rfl⟩) (nomark _))
  (pss_one (ps_dead))
  (pss_nil))
  (pss_cons (ps_fld (pv 0) (pe_dnewK) rfl)
  (pss_cons (ps_fld (pv 0) (pe_int) rfl)
  (pss_one (ps_fld (pv 0) (pe_lst (pa_cons (pe_make T.mk_OpenList (ok_OpenList___init__ T) (hr.mono (by decide)) rfl T.g_OpenList (bd_OpenList___init___3 T).choose_spec.2 (bd_OpenList___init___3 T).choose_spec.1 pass0 (pa_cons (pe_str) (pa_cons (pe_lst pa_nil) (pa_cons (pe_bl) pa_nil)))) pa_nil)) rfl)))))), ?_⟩
  refine YG.fld_un (meth_un (Te.go (te_var rfl) ⟨p.self, p.dx, _, rfl, L.ob, rfl, cons_un ?_⟩))
  refine lc_go (ti_list (te_fld (te_var rfl) R.ob T.cl_Reader T.no_Reader_threads rfl) (SqL.of R.thr)) (walk_list (K := K) (a := r.pth) (xs := [])) (fun L i G => H L = none ∧ G = upd H L (.lst [])) (fun L hL => ⟨hL, rfl⟩) (fun L i G _ h => by rw [h.2]; exact SqL.of (Same.upd h.1 _ _ R.thr)) (fun L i x H1 H' _ hi => absurd hi (Nat.not_lt_zero _)) fun q H0 hq h0 => ?_
  obtain ⟨_, rfl⟩ := h0
  have s0 : Same H (upd H q (.lst [])) := Same.upd hq
  have e0 : upd H q (.lst []) q = some (.lst []) := upd_same
  generalize upd H q (.lst []) = H0 at s0 e0 ⊢
  refine ⟨p, ts, cs, vs, pl, mo, q, [], rfl, L.same s0, nok, .inl e0, (by intro z; cases z), fun H1 k1 L1 => ?_⟩
  have nC : ∀ a ∈ ownR r, a ∉ CL A p := fun a ha z => by
    simp only [CL, List.mem_cons, List.not_mem_nil, or_false] at z
    rcases z with z | z
    · exact R.tns a ha z
    · exact np (z ▸ ha)
  have R1 := (R.same s0).kept k1 nC L1.tb
  have K1 : Kept (ownR r ++ CL A p) H H1 := (Kept.of s0).trans (k1.more fun a h => List.mem_append_right _ h)
  refine ⟨_, rfl, r.self, A.a_Reader, r.dx, _, rfl, R1.ob, T.cl_Reader, T.no_Reader_name, by show 7 < 1000; decide, ?_⟩
  have A1 : Al H H1 := (Al.of s0).trans (L1.al k1)
  have A2 : Al H (upd H1 r.self (.ins A.a_Reader r.dx (fldR r (.str (tx ts pl)) st))) := A1.upd
  have R2 : RdAt A (upd H1 r.self (.ins A.a_Reader r.dx (fldR r (.str (tx ts pl)) st))) r (.str (tx ts pl)) st cl dk [] vk [] := R1.setN _ _
  have L2 : LnAt A (upd H1 r.self (.ins A.a_Reader r.dx (fldR r (.str (tx ts pl)) st))) p ts cs vs (pl + 1) mo := L1.offI R1.ob (fun z => np (by rw [← z]; simp [ownR]))
  have K2 : Kept (ownR r ++ CL A p) H (upd H1 r.self (.ins A.a_Reader r.dx (fldR r (.str (tx ts pl)) st))) := K1.upd (by simp [ownR])
  show tSeq _ _ _ _ (upd H1 r.self (.ins A.a_Reader r.dx (fldR r (.str (tx ts pl)) st)))
  generalize upd H1 r.self (.ins A.a_Reader r.dx (fldR r (.str (tx ts pl)) st)) = H2 at R2 L2 K2 A2 ⊢
  refine sq_go (drop_un (meth_go (te_var rfl) L2.ob rfl ta_nil ⟨p, ts, cs, vs, pl + 1, mo, rfl, L2, len, ?_⟩))
  refine cut_sq (if_seq (b := false) (tt_test (te_eqF (x := .int 0) (te_len (te_fld (te_var rfl) R2.ob T.cl_Reader T.no_Reader_threads rfl) (.inl (SqL.of R2.thr))) te_c rfl (by intro z; cases z))) (fun z => nomatch z) fun _ => ?_)
  -- variables
  refine sq_go (YG.fld_un fun q1 hq1 => ?_)
  have s3 : Same H2 (upd H2 q1 (.dK [])) := Same.upd hq1
  have R3 := R2.same s3
  have K3 : Kept (ownR r ++ CL A p) H (upd H2 q1 (.dK [])) := K2.trans (Kept.of s3)
  have e3 : upd H2 q1 (.dK []) q1 = some (.dK []) := upd_same
  have A3 : Al H (upd H2 q1 (.dK [])) := A2.upd
  have n3 : r.pdc ≠ q1 := fun z => by rw [← z, R2.decl] at hq1; cases hq1
  generalize upd H2 q1 (.dK []) = H3 at s3 R3 K3 e3 A3 ⊢
  refine ⟨_, rfl, r.self, A.a_Reader, r.dx, _, rfl, R3.ob, T.cl_Reader, T.no_Reader_variables, by show 7 < 1000; decide, ?_⟩
  have R4 := R3.setV e3 n3
  have K4 : Kept (ownR r ++ CL A p) H (upd H3 r.self (.ins A.a_Reader r.dx (fldR { r with pvr := q1 } (.str (tx ts pl)) st))) := K3.upd (by simp [ownR])
  have A4 : Al H (upd H3 r.self (.ins A.a_Reader r.dx (fldR { r with pvr := q1 } (.str (tx ts pl)) st))) := A3.upd
  show tSeq _ _ _ _ (upd H3 r.self (.ins A.a_Reader r.dx (fldR { r with pvr := q1 } (.str (tx ts pl)) st)))
  generalize upd H3 r.self (.ins A.a_Reader r.dx (fldR { r with pvr := q1 } (.str (tx ts pl)) st)) = H4 at R4 K4 A4 ⊢
  -- statements
  refine sq_go (st_fld (v := .int 0) te_c rfl R4.ob T.cl_Reader T.no_Reader_statements (by show 7 < 1000; decide) ?_)
  have R5 := R4.setN (.str (tx ts pl)) 0
  have K5 : Kept (ownR r ++ CL A p) H (upd H4 r.self (.ins A.a_Reader r.dx (fldR { r with pvr := q1 } (.str (tx ts pl)) 0))) := K4.upd (by simp [ownR])
  have e5 : putF "statements" (V.int 0) (fldR { r with pvr := q1 } (.str (tx ts pl)) st) = fldR { r with pvr := q1 } (.str (tx ts pl)) 0 := rfl
  rw [e5]
  dsimp only
  have A5 : Al H (upd H4 r.self (.ins A.a_Reader r.dx (fldR { r with pvr := q1 } (.str (tx ts pl)) 0))) := A4.upd
  generalize upd H4 r.self (.ins A.a_Reader r.dx (fldR { r with pvr := q1 } (.str (tx ts pl)) 0)) = H5 at R5 K5 A5 ⊢
  refine YG.fld_un (lst_un (cons_un (make_un (cons_un (Te.go te_c (cons_un (lst_un (nil_un ⟨Nat.zero_le _, fun pr hpr => cons_un (Te.go te_c (nil_un fun x dx hx hdx ndx => ?_))⟩))))))))
  have s6 : Same H5 (upd H5 pr (.lst [])) := Same.upd hpr
  have R6 := R5.same s6
  have K6 := K5.trans (Kept.of (C := ownR r ++ CL A p) s6)
  have e6 : upd H5 pr (.lst []) pr = some (.lst []) := upd_same
  have A6 : Al H (upd H5 pr (.lst [])) := A5.upd
  have npr : pr ∉ ownR { r with pvr := q1 } := R5.nOwn hpr
  generalize upd H5 pr (.lst []) = H6 at s6 R6 K6 e6 A6 hx hdx ⊢
  have s7 : Same H6 (upd (upd H6 dx (.own x)) x (.ins A.a_OpenList dx [])) := (Same.upd hdx).trans (Same.upd (by rw [upd_ne ndx.symm]; exact hx))
  have R7 := R6.same s7
  have K7 := K6.trans (Kept.of (C := ownR r ++ CL A p) s7)
  have nx : x ∉ ownR { r with pvr := q1 } := R6.nOwn hx
  have e7 : upd (upd H6 dx (.own x)) x (.ins A.a_OpenList dx []) x = some (.ins A.a_OpenList dx []) := upd_same
  have p7 := s7 _ _ e6
  have A7 := A6.trans (Al.of s7)
  have npx : pr ≠ x := fun z => by rw [← z, e6] at hx; cases hx
  have tnx : A.t_is_name ≠ x := fun z => by
    obtain ⟨ps, t, _⟩ := R6.tb
    rw [z, hx] at t; cases t
  have mK : ∀ {a : Addr}, a ∈ ownR r → a ∈ ownR r ++ CL A p := fun h => List.mem_append_left _ h
  generalize upd (upd H6 dx (.own x)) x (.ins A.a_OpenList dx []) = H7 at s7 R7 K7 e7 p7 A7 ⊢
  refine ⟨x, dx, pr, "thread", false, rfl, e7, fun H8 k8 ol8 => ⟨rfl, nil_un ⟨by show 1 ≤ sizeLine; decide, fun u hu => ?_⟩⟩⟩
  have R8 : RdAt A H8 { r with pvr := q1 } (.str (tx ts pl)) 0 cl dk [] [] [] := R7.kept (C := [x]) (fun b o n e => k8 b o (by simpa using n) e) (fun a ha z => nx (by rw [← List.mem_singleton.mp z]; exact ha)) (by
    obtain ⟨ps, t1, t2⟩ := R7.tb
    exact ⟨ps, k8 _ _ tnx t1, t2⟩)
  have hxH : H x = none := A6 _ hx
  have K8 : Kept (ownR r ++ CL A p) H H8 := K7.fresh hxH k8
  have A8 : Al H H8 := A7.trans fun a e => by
    by_cases z : a = x
    · obtain ⟨dxo, o⟩ := ol8
      rw [z, o] at e; cases e
    · cases h : H7 a with
      | none => rfl
      | some w => rw [k8 _ _ z h] at e; cases e
  have p8 := k8 _ _ npx p7
  have s9 : Same H8 (upd H8 u (.lst [.ref x])) := Same.upd hu
  have R9 := R8.same s9
  have huH : H u = none := A8 _ hu
  have e9 : upd H8 u (.lst [.ref x]) u = some (.lst [.ref x]) := upd_same
  have K9 := K8.trans (Kept.of (C := ownR r ++ CL A p) s9)
  have p9 := s9 _ _ p8
  have o9 : OlAt A (upd H8 u (.lst [.ref x])) x pr "thread" false := by
    obtain ⟨dxo, o⟩ := ol8
    exact ⟨dxo, s9 _ _ o⟩
  have nu : u ∉ ownR { r with pvr := q1 } := R8.nOwn hu
  have npu : pr ≠ u := fun z => by rw [← z, p8] at hu; cases hu
  have nxu : x ≠ u := fun z => by
    obtain ⟨dxo, o⟩ := ol8
    rw [← z, o] at hu; cases hu
  generalize upd H8 u (.lst [.ref x]) = H9 at s9 R9 e9 K9 p9 o9 ⊢
  refine ⟨_, rfl, r.self, A.a_Reader, r.dx, _, rfl, R9.ob, T.cl_Reader, T.no_Reader_lists, by show 7 < 1000; decide, ?_⟩
  have R10 := R9.setL e9 (fun z => nu (by rw [← z]; simp [ownR])) (fun z => nu (by rw [← z]; simp [ownR]))
  have K10 : Kept (ownR r ++ CL A p) H (upd H9 r.self (.ins A.a_Reader r.dx (fldR { r with pvr := q1, pls := u } (.str (tx ts pl)) 0))) := K9.upd (by simp [ownR])
  have rpr : r.self ≠ pr := fun z => npr (by rw [← z]; simp [ownR])
  have rx : r.self ≠ x := fun z => nx (by rw [← z]; simp [ownR])
  refine k { r with pvr := q1, pls := u } x pr _ rfl (fun a ha => ?_) hxH (A5 _ hpr) (fun z => ?_) (fun z => ?_) K10 R10 (by
    obtain ⟨dxo, o⟩ := o9
    exact ⟨dxo, upd_off o rx.symm⟩) (upd_off p9 rpr.symm)
  · simp only [ownR, List.mem_cons, List.not_mem_nil, or_false] at ha
    rcases ha with rfl | rfl | rfl | rfl | rfl | rfl
    · exact .inl (by simp [ownR])
    · exact .inl (by simp [ownR])
    · exact .inl (by simp [ownR])
    · exact .inl (by simp [ownR])
    · exact .inr (A2 _ hq1)
    · exact .inr huH
  · simp only [ownR, List.mem_cons, List.not_mem_nil, or_false] at z nx
    rcases z with z | z | z | z | z | z
    · exact nx (.inl z)
    · exact nx (.inr (.inl z))
    · exact nx (.inr (.inr (.inl z)))
    · exact nx (.inr (.inr (.inr (.inl z))))
    · exact nx (.inr (.inr (.inr (.inr (.inl z)))))
    · exact nxu z
  · simp only [ownR, List.mem_cons, List.not_mem_nil, or_false] at z npr
    rcases z with z | z | z | z | z | z
    · exact npr (.inl z)
    · exact npr (.inr (.inl z))
    · exact npr (.inr (.inr (.inl z)))
    · exact npr (.inr (.inr (.inr (.inl z))))
    · exact npr (.inr (.inr (.inr (.inr (.inl z)))))
    · exact npu z
end
end K01

namespace K01
open PySem L2 YF YG
open C8 (tCut)
section
variable {A : Adr} {H H' : Hp} {r : PlR} {nm : V} {st : Int} {cl : List V} {dk : Kv} {th : List V} {vk : Kv} {ls : List V}
/-- variables written -/
theorem RdAt.putV (R : RdAt A H r nm st cl dk th vk ls) (vk' : Kv) : RdAt A (upd H r.pvr (.dK vk')) r nm st cl dk th vk' ls :=
  have ne : ∀ {b : Addr} {o : HO}, H b = some o → (∀ l, o ≠ .dK l) → b ≠ r.pvr := fun {b o} e n z => by
    rw [z, R.var] at e
    exact n _ (Option.some.inj e).symm
  ⟨upd_off R.ob (ne R.ob (by intro _ z; cases z)), upd_off R.cells (ne R.cells (by intro _ z; cases z)), upd_off R.decl R.n1, upd_off R.thr (ne R.thr (by intro _ z; cases z)), upd_same, upd_off R.lis (ne R.lis (by intro _ z; cases z)), TabG.off R.tb (fun z => R.tns _ (by simp [ownR]) z.symm), R.n1, R.n2, R.n3, R.n4⟩
theorem RdAt.putLs (R : RdAt A H r nm st cl dk th vk ls) (ls' : List V) : RdAt A (upd H r.pls (.lst ls')) r nm st cl dk th vk ls' :=
  have ne : ∀ {b : Addr} {o : HO}, H b = some o → (∀ l, o ≠ .lst l) → b ≠ r.pls := fun {b o} e n z => by
    rw [z, R.lis] at e
    exact n _ (Option.some.inj e).symm
  ⟨upd_off R.ob (ne R.ob (by intro _ z; cases z)), upd_off R.cells R.n3, upd_off R.decl (ne R.decl (by intro _ z; cases z)), upd_off R.thr R.n4, upd_off R.var (ne R.var (by intro _ z; cases z)), upd_same, TabG.off R.tb (fun z => R.tns _ (by simp [ownR]) z.symm), R.n1, R.n2, R.n3, R.n4⟩
theorem RdAt.putTh (R : RdAt A H r nm st cl dk th vk ls) (th' : List V) : RdAt A (upd H r.pth (.lst th')) r nm st cl dk th' vk ls :=
  have ne : ∀ {b : Addr} {o : HO}, H b = some o → (∀ l, o ≠ .lst l) → b ≠ r.pth := fun {b o} e n z => by
    rw [z, R.thr] at e
    exact n _ (Option.some.inj e).symm
  ⟨upd_off R.ob (ne R.ob (by intro _ z; cases z)), upd_off R.cells R.n2, upd_off R.decl (ne R.decl (by intro _ z; cases z)), upd_same, upd_off R.var (ne R.var (by intro _ z; cases z)), upd_off R.lis R.n4.symm, TabG.off R.tb (fun z => R.tns _ (by simp [ownR]) z.symm), R.n1, R.n2, R.n3, R.n4⟩
theorem keys_str {kv : Kv} {cs : List Str} (e : kv.map (·.1) = cs.map Sum.inr) : (kv.map fun kv => kV kv.1) = cs.map V.str := by
  have := congrArg (List.map kV) e
  rw [List.map_map, List.map_map] at this
  exact this
theorem putK_new {kvs : Kv} {k : Key} {v : V} (h : valV kvs k = none) : putK kvs k v = kvs ++ [(k, v)] := by
  unfold putK
  rw [valV_any, h]
  rfl
end
def spDL (A : Adr) : Sp := fun ws H Q _ => ∃ (r : PlR) (nm : V) (st : Int) (cl : List V) (dk : Kv) (th : List V) (vk : Kv) (ls : List V) (p : PlL) (ts : List Tk) (cs vs : List Str) (pl mo k : Nat) (n : Int), ws = [.ref r.self, .ref p.self] ∧ RdAt A H r nm st cl dk th vk ls ∧ LnAt A H p ts cs vs pl mo ∧ p.self ∉ ownR r ∧ dk.map (·.1) = cs.map Sum.inr ∧ vk.map (·.1) = vs.map Sum.inr ∧
  NameOk (tx ts pl) ∧ tx ts pl ∉ cs ++ vs ∧ tx ts (pl + 1) = "=" ∧ IntAt ts (pl + 2) n k ∧ k = ts.length ∧ vk.length < 10 ∧ dk.length ≤ 100 ∧
  ∀ H', Kept (ownR r ++ CL A p) H H' → Al H H' → RdAt A H' r nm st cl dk th (vk ++ [(.inr (tx ts pl), .int n)]) ls → Q .non H'
section
variable {P : Program} {w : World} {K : PySem.W.Frag} {mg : Str → Option Value} {base : Heap} {A : Adr}
theorem ok_Reader_declare_local (TB : GxR.TabB base mg A.c_is_name A.t_is_name) (T : Txt K mg A) : FnOk P w K mg base CX0 6 A.a_Reader_declare_local A.d_Reader_declare_local ["self", "line"] (spDL A) := by
  refine T.F_Reader_declare_local.ok (k := 5) sc_Reader_declare_local (fun ws H Q E ⟨_, _, _, _, _, _, _, _, _, _, _, _, _, _, _, _, e, _⟩ => by rw [e]; rfl) (fun cdv A' outer s H ws Q E hr h' => ?_)
  obtain ⟨r, nm, st, cl, dk, th, vk, ls, p, ts, cs, vs, pl, mo, k, n, rfl, R, L, np, edk, evk, nok, nin, teq, ia, ke, lv, ld, kQ⟩ := h'
  refine ⟨_, pss_cons (ps_set (i := 2) sc_Reader_declare_local.nd rfl (Or.inl rfl) (pe_meth (pv 1) T.cl_Line T.m_Line_take_new_name (ok_Line_take_new_name TB T) (hr.mono (by decide)) T.b_Line_take_new_name .nil pass0 (pa_cons (pe_op op_cat (pe_callTy (call_listD rfl) (by rfl) T.n_list (by decide +kernel) (pa_cons (pe_fld (pv 0) rfl) pa_nil)) (pe_callTy (call_listD rfl) (by rfl) T.n_list (by decide +kernel) (pa_cons (pe_fld (pv 0) rfl) pa_nil))) pa_nil)))
  (pss_cons (ps_expr (pe_meth (pv 1) T.cl_Line T.m_Line_take (ok_Line_take T) (hr.mono (by decide)) T.b_Line_take .nil pass0 (pa_cons (pe_str) pa_nil)))
  (pss_cons (ps_set (i := 3) sc_Reader_declare_local.nd rfl (Or.inl rfl) (pe_meth0 (pv 1) T.cl_Line T.m_Line_take_integer (ok_Line_take_integer T) (hr.mono (by decide)) T.b_Line_take_integer .nil pass0))
  (pss_cons (ps_expr (pe_meth0 (pv 1) T.cl_Line T.m_Line_finish (ok_Line_finish T) (hr.mono (by decide)) T.b_Line_finish .nil pass0))
  (C8.pss_cut (ps_if (pt_cmpR op_eq (pe_callB call_lenD (by rfl) T.n_len (by decide +kernel) (pa_cons (pe_fld (pv 0) rfl) pa_nil)) (pe_glob (v := .int 10) rfl T.g_MOST_LOCALS ⟨_, rfl⟩) (nomark _))
  (pss_one (ps_dead))
  (pss_nil))
  (pss_one (ps_dput (hu_of hr) (pe_fld (pv 0) rfl) (pv 2) (pv 3) rfl)))))), ?_⟩
  refine asg_un (meth_un (Te.go (te_var rfl) ⟨p.self, p.dx, _, rfl, L.ob, rfl, cons_un ?_⟩))
  have t1 : ∀ {Q : VK}, (∀ q, H q = none → Q (.ref q) (upd H q (.lst (cs.map V.str)))) → tCB (fun xs H Q => ∃ (a : Addr) (kvs : List (Key × V)), xs = [.ref a] ∧ Rd H a (.dK kvs) ∧ ∀ p, H p = none → Q (.ref p) (upd H p (.lst (kvs.map fun kv => kV kv.1)))) (tCons (tFld K (tVar 0) "declared") tNil) (L2.start ["self", "line", "name", "first"] [.ref r.self, .ref p.self]) H Q := fun {Q} h => (ta1 (te_fld (te_var rfl) R.ob T.cl_Reader T.no_Reader_declared rfl)) _ ⟨_, _, rfl, .of R.decl, fun q hq => by
    rw [keys_str edk]
    exact h q hq⟩
  refine op_un (t1 fun q0 hq0 => ?_)
  have s0 : Same H (upd H q0 (.lst (cs.map V.str))) := Same.upd hq0
  have e0 : upd H q0 (.lst (cs.map V.str)) q0 = some (.lst (cs.map V.str)) := upd_same
  generalize upd H q0 (.lst (cs.map V.str)) = G0 at s0 e0 ⊢
  have R0 := R.same s0
  refine (ta1 (te_fld (te_var rfl) R0.ob T.cl_Reader T.no_Reader_variables rfl)) _ ⟨_, _, rfl, .of R0.var, fun q1 hq1 => ?_⟩
  rw [keys_str evk]
  have s1 : Same G0 (upd G0 q1 (.lst (vs.map V.str))) := Same.upd hq1
  have e1 : upd G0 q1 (.lst (vs.map V.str)) q1 = some (.lst (vs.map V.str)) := upd_same
  have e01 := s1 _ _ e0
  generalize upd G0 q1 (.lst (vs.map V.str)) = G1 at s1 e1 e01 ⊢
  have l1 : cs.length = dk.length := by have := congrArg List.length edk; simpa using this.symm
  have l2 : vs.length = vk.length := by have := congrArg List.length evk; simpa using this.symm
  refine ⟨q0, q1, _, _, rfl, rfl, e01, e1, by rw [List.length_map, List.length_map, sizeLine_eq]; omega, fun q2 hq2 => nil_un ?_⟩
  rw [← List.map_append]
  have s2 : Same H (upd G1 q2 (.lst ((cs ++ vs).map V.str))) := (s0.trans s1).trans (Same.upd hq2)
  have e2 : upd G1 q2 (.lst ((cs ++ vs).map V.str)) q2 = some (.lst ((cs ++ vs).map V.str)) := upd_same
  generalize upd G1 q2 (.lst ((cs ++ vs).map V.str)) = G2 at s2 e2 ⊢
  refine ⟨p, ts, cs, vs, pl, mo, q2, cs ++ vs, rfl, L.same s2, nok, .inl e2, nin, fun H1 k1 L1 => ?_⟩
  refine set_sl (σ' := [some (.ref r.self), some (.ref p.self), some (.str (tx ts pl)), none]) rfl ?_
  refine sq_go (drop_un (meth_go (te_var rfl) L1.ob rfl (ta_cons te_c ta_nil) ⟨p, ts, cs, vs, pl + 1, mo, "=", rfl, L1, teq, fun H2 k2 L2 => ?_⟩))
  refine asg_un (meth_go (te_var rfl) L2.ob rfl ta_nil ⟨p, ts, cs, vs, pl + 2, mo, k, n, rfl, L2, ia, fun H3 k3 L3 => ?_⟩)
  refine set_sl (σ' := [some (.ref r.self), some (.ref p.self), some (.str (tx ts pl)), some (.int n)]) rfl ?_
  refine sq_go (drop_un (meth_go (te_var rfl) L3.ob rfl ta_nil ⟨p, ts, cs, vs, k, mo, rfl, L3, ke, ?_⟩))
  have nC : ∀ a ∈ ownR r, a ∉ CL A p := fun a ha z => by
    simp only [CL, List.mem_cons, List.not_mem_nil, or_false] at z
    rcases z with z | z
    · exact R.tns a ha z
    · exact np (z ▸ ha)
  have kk : Kept (CL A p) H H3 := (Kept.of s2).trans (k1.trans (k2.trans k3))
  have R3 := R.kept kk nC L3.tb
  have tl : Te (tCB (fun xs H Q => ∃ (a : Addr) (kvs : List (Key × V)), xs = [.ref a] ∧ H a = some (HO.dK kvs) ∧ Q (V.int kvs.length) H) (tCons (tFld K (tVar 0) "variables") tNil)) [some (.ref r.self), some (.ref p.self), some (.str (tx ts pl)), some (.int n)] H3 (.int (vk.length : Int)) := fun Q q => (ta1 (te_fld (te_var rfl) R3.ob T.cl_Reader T.no_Reader_variables rfl)) _ ⟨_, _, rfl, R3.var, q⟩
  refine cut_sq (if_seq (b := false) (tt_test (te_eqF (y := .int 10) tl te_c rfl (fun z => by have := V.int.inj z; omega))) (fun z => nomatch z) fun _ => ?_)
  have vn : valV vk (Sum.inr (tx ts pl) : Key) = none := by
    have := vals_in (z := tx ts pl) evk
    rw [decide_eq_false (fun z => nin (List.mem_append_right _ z))] at this
    cases h : valV vk (Sum.inr (tx ts pl) : Key) with
    | none => rfl
    | some v => rw [h] at this; cases this
  refine Te.go (te_var rfl) (Te.go (te_fld (te_var rfl) R3.ob T.cl_Reader T.no_Reader_variables rfl) (Te.go (te_var rfl) ⟨r.pvr, _, rfl, DPut.k (k := .inr (tx ts pl)) R3.var (by rw [sizeLine_eq]; omega), ?_⟩))
  rw [putK_new vn]
  exact kQ _ ((kk.more fun a h => List.mem_append_right _ h).upd (by simp [ownR])) (L3.al kk).upd (R3.putV _)
end
end K01

namespace K01
open PySem L2 YF YG
open C8 (tCut)
/-! ### lines that declare cells -/
def CellF (ts : List Tk) (pl : Nat) (size first : Int) (k : Nat) : Prop := (tx ts pl = "=" ∧ size = 1 ∧ IntAt ts (pl + 1) first k) ∨ (tx ts pl ≠ "=" ∧ ∃ j, IntAt ts pl size j ∧ tx ts j = "=" ∧ IntAt ts (j + 1) first k)
def CelO (nm : Str) (size first : Int) : HO := .tup [.str nm, .int size, .int first]
def spPC (A : Adr) : Sp := fun ws H Q _ => ∃ (p : PlL) (ts : List Tk) (cs vs : List Str) (pl mo : Nat) (nm : Str) (size first : Int) (k : Nat), ws = [.ref p.self, .str nm] ∧ LnAt A H p ts cs vs pl mo ∧ CellF ts pl size first k ∧
  ∀ u H', Kept (CL A p) H H' → LnAt A H' p ts cs vs k mo → H u = none → H' u = some (CelO nm size first) → Q (.ref u) H'
def spRC (A : Adr) : Sp := fun ws H Q _ => ∃ (p : PlL) (ts : List Tk) (cs vs : List Str) (pl mo : Nat) (size first : Int) (k : Nat), ws = [.ref p.self, .str "cell"] ∧ LnAt A H p ts cs vs pl mo ∧ NameOk (tx ts pl) ∧ tx ts pl ∉ cs ∧ CellF ts (pl + 1) size first k ∧
  ∀ v u H', Kept (CL A p) H H' → LnAt A H' p ts cs vs k mo → H u = none → H v = none → H' u = some (CelO (tx ts pl) size first) → H' v = some (.tup [.ref u, .int 0]) → Q (.ref v) H'
section
variable {P : Program} {w : World} {K : PySem.W.Frag} {mg : Str → Option Value} {base : Heap} {A : Adr}
theorem ok_read_plain_cell (T : Txt K mg A) : FnOk P w K mg base CX0 5 A.a__read_plain_cell A.d__read_plain_cell ["line", "name"] (spPC A) := by
  refine T.F__read_plain_cell.ok (k := 4) sc_read_plain_cell (fun ws H Q E ⟨_, _, _, _, _, _, _, _, _, _, e, _⟩ => by rw [e]; rfl) (fun cdv A' outer s H ws Q E hr h => ?_)
  obtain ⟨p, ts, cs, vs, pl, mo, nm, size, first, k, rfl, L, cf, kQ⟩ := h
  refine ⟨_, pss_cons (ps_set (i := 2) sc_read_plain_cell.nd rfl (Or.inl rfl) (pe_int))
  (C8.pss_cut (ps_if (pt_cmpR op_ne (pe_meth0 (pv 0) T.cl_Line T.m_Line_text (ok_Line_text T) (hr.mono (by decide)) (bd_Line_text_0 T).choose_spec.2 (bd_Line_text_0 T).choose_spec.1 pass0) (pe_str) (nomark _))
  (pss_one (ps_set (i := 2) sc_read_plain_cell.nd rfl (Or.inl rfl) (pe_meth0 (pv 0) T.cl_Line T.m_Line_take_integer (ok_Line_take_integer T) (hr.mono (by decide)) T.b_Line_take_integer .nil pass0)))
  (pss_nil))
  (pss_cons (ps_expr (pe_meth (pv 0) T.cl_Line T.m_Line_take (ok_Line_take T) (hr.mono (by decide)) T.b_Line_take .nil pass0 (pa_cons (pe_str) pa_nil)))
  (pss_one (ps_ret (pe_tup (pa_cons (pv 1) (pa_cons (pv 2) (pa_cons (pe_meth0 (pv 0) T.cl_Line T.m_Line_take_integer (ok_Line_take_integer T) (hr.mono (by decide)) T.b_Line_take_integer .nil pass0) pa_nil)))))))), ?_⟩
  refine asg_te te_c (set_sl (σ' := [some (.ref p.self), some (.str nm), some (.int 1)]) rfl ?_)
  have fin : ∀ {H1 : Hp} {j : Nat} {D : Ends}, Kept (CL A p) H H1 → LnAt A H1 p ts cs vs j mo → tx ts j = "=" → IntAt ts (j + 1) first k → (∀ u H', Kept (CL A p) H H' → LnAt A H' p ts cs vs k mo → H u = none → H' u = some (CelO nm size first) → D.rt (.ref u) H') →
      tSeq (tDrop (tMeth A.a_Line "take" (spLTake A) [] E0 (tVar 0) (tCons (tC (.str "=")) tNil))) (tRet (tTup (tCons (tVar 1) (tCons (tVar 2) (tCons (tMeth A.a_Line "take_integer" (spTakeI A) [] E0 (tVar 0) tNil) tNil))))) D [some (.ref p.self), some (.str nm), some (.int size)] H1 := fun {H1 j D} k1 L1 te ia kd => by
    refine sq_go (drop_un (meth_go (te_var rfl) L1.ob rfl (ta1 te_c) ⟨p, ts, cs, vs, j, mo, "=", rfl, L1, te, fun H2 k2 L2 => ?_⟩))
    refine ret_un (tup_un (cons_un (Te.go (te_var rfl) (cons_un (Te.go (te_var rfl) (cons_un (meth_go (te_var rfl) L2.ob rfl ta_nil ⟨p, ts, cs, vs, j + 1, mo, k, first, rfl, L2, ia, fun H3 k3 L3 => nil_un ⟨by show 3 ≤ sizeLine; decide, fun u hu => ?_⟩⟩)))))))
    exact kd u _ ((k1.trans k2).trans (k3.trans (Kept.of (Same.upd hu)))) (L3.same (Same.upd hu)) ((L3.al ((k1.trans k2).trans k3)) _ hu) upd_same
  rcases cf with ⟨te, rfl, ia⟩ | ⟨tn, j, i1, te, ia⟩
  · refine cut_sq (if_seq (b := false) (tt_test (by
      have t := te_ne (te_text (E := E0) L (te_var (σ := [some (.ref p.self), some (.str nm), some (.int 1)]) (i := 0) rfl)) (te_c (v := .str "=")) rfl
      rw [te] at t
      exact t)) (fun z => nomatch z) fun _ => ?_)
    exact fin Kept.refl L te ia kQ
  · refine cut_sq (if_seq (b := true) (tt_test (by
      have t := te_ne (te_text (E := E0) L (te_var (σ := [some (.ref p.self), some (.str nm), some (.int 1)]) (i := 0) rfl)) (te_c (v := .str "=")) rfl
      rw [show (!decide (V.str (tx ts pl) = V.str "=")) = true from by rw [decide_eq_false (fun z => tn (V.str.inj z))]; rfl] at t
      exact t)) (fun _ => ?_) fun z => nomatch z)
    refine asg_un (meth_go (te_var rfl) L.ob rfl ta_nil ⟨p, ts, cs, vs, pl, mo, j, size, rfl, L, i1, fun H1 k1 L1 => ?_⟩)
    refine set_sl (σ' := [some (.ref p.self), some (.str nm), some (.int size)]) rfl ?_
    exact fin k1 L1 te ia kQ
theorem ok_read_cell (TB : GxR.TabB base mg A.c_is_name A.t_is_name) (T : Txt K mg A) : FnOk P w K mg base CX0 6 A.a_read_cell A.d_read_cell ["line", "word"] (spRC A) := by
  refine T.F_read_cell.ok (k := 5) sc_read_cell (fun ws H Q E ⟨_, _, _, _, _, _, _, _, _, e, _⟩ => by rw [e]; rfl) (fun cdv A' outer s H ws Q E hr h => ?_)
  obtain ⟨p, ts, cs, vs, pl, mo, size, first, k, rfl, L, nok, nin, cf, kQ⟩ := h
  refine ⟨_, pss_cons (ps_set (i := 2) sc_read_cell.nd rfl (Or.inl rfl) (pe_meth (pv 0) T.cl_Line T.m_Line_take_new_name (ok_Line_take_new_name TB T) (hr.mono (by decide)) T.b_Line_take_new_name .nil pass0 (pa_cons (pe_fld (pv 0) rfl) pa_nil)))
  (pss_cons (ps_if (pt_cmpR op_eq (pv 1) (pe_str) (nomark _))
  (pss_one (ps_dead))
  (pss_nil))
  (pss_cons (ps_if (pt_cmpR op_eq (pv 1) (pe_str) (nomark _))
  (pss_one (ps_ret (pe_tup (pa_cons (pe_call (ok_read_plain_cell T) (hr.mono (by decide)) rfl T.g__read_plain_cell T.F__read_plain_cell.kp T.b__read_plain_cell .nil pass0 (pa_cons (pv 0) (pa_cons (pv 2) pa_nil))) (pa_cons (pe_int) pa_nil)))))
  (pss_nil))
  (pss_cons (ps_dead)
  (pss_cons (ps_set (i := 4) sc_read_cell.nd rfl (Or.inl rfl) (pe_meth0 (pv 0) T.cl_Line T.m_Line_take_integer (ok_Line_take_integer T) (hr.mono (by decide)) T.b_Line_take_integer .nil pass0))
  (pss_one (ps_dead)))))), ?_⟩
  obtain ⟨kv, hc1, hc2⟩ := L.hc
  refine asg_un (meth_go (te_var rfl) L.ob rfl (ta1 (te_fld (te_var rfl) L.ob T.cl_Line T.no_Line_cells rfl)) ⟨p, ts, cs, vs, pl, mo, p.pc, cs, rfl, L, nok, .inr ⟨kv, hc1, hc2⟩, nin, fun H1 k1 L1 => ?_⟩)
  refine set_sl (σ' := [some (.ref p.self), some (.str "cell"), some (.str (tx ts pl)), none, none]) rfl ?_
  refine if_seq (b := false) (tt_test (te_eqF (x := .str "cell") (te_var rfl) te_c rfl (by decide))) (fun z => nomatch z) fun _ => ?_
  refine if_seq (b := true) (tt_test (te_eqT (x := .str "cell") (te_var rfl) te_c rfl)) (fun _ => ?_) fun z => nomatch z
  refine ret_un (tup_un (cons_un (go_call (ta_cons (te_var rfl) (ta_cons (te_var rfl) ta_nil)) ⟨p, ts, cs, vs, pl + 1, mo, tx ts pl, size, first, k, rfl, L1, cf, fun u H2 k2 L2 hu eu => cons_un (Te.go te_c (nil_un ⟨by show 2 ≤ sizeLine; decide, fun v hv => ?_⟩))⟩)))
  exact kQ v u _ ((k1.trans k2).trans (Kept.of (Same.upd hv))) (L2.same (Same.upd hv)) ((L1.al k1) _ hu) ((L2.al (k1.trans k2)) _ hv) (Same.upd hv _ _ eu) upd_same
end
end K01

namespace K01
open PySem L2 YF YG
open C8 (tCut)
/-- cells that were declared, with their sizes -/
def CelAt (H : Hp) (v : V) (s : Int) : Prop := ∃ u nm f, v = .ref u ∧ H u = some (CelO nm s f)
def spDC (A : Adr) : Sp := fun ws H Q _ => ∃ (r : PlR) (nm : V) (st : Int) (cl : List V) (dk : Kv) (th : List V) (vk : Kv) (ls : List V) (p : PlL) (ts : List Tk) (cs vs : List Str) (pl mo k : Nat) (size first : Int) (ss : List Int), ws = [.ref r.self, .ref p.self, .str "cell"] ∧ RdAt A H r nm st cl dk th vk ls ∧ LnAt A H p ts cs vs pl mo ∧ p.self ∉ ownR r ∧ dk.map (·.1) = cs.map Sum.inr ∧
  NameOk (tx ts pl) ∧ tx ts pl ∉ cs ∧ CellF ts (pl + 1) size first k ∧ k = ts.length ∧ Paired (CelAt H) cl ss ∧ 1 ≤ size ∧ ss.sum + size ≤ 24 ∧ cl.length ≤ 100 ∧ dk.length ≤ 100 ∧
  ∀ (u t : Addr) H', Kept (ownR r ++ CL A p) H H' → Al H H' → H u = none → H' u = some (CelO (tx ts pl) size first) → u ∉ ownR r → RdAt A H' r nm st (cl ++ [.ref u]) (dk ++ [(.inr (tx ts pl), .ref t)]) th vk ls → Q .non H'
theorem or_un {t u : TT} {σ : L2.St} {H : Hp} {Q : Bool → Hp → Prop} {b : Bool} (h : Tt t σ H b) (e : b = false) (k : u σ H Q) : tOr t u σ H Q := h _ (by
  subst e
  exact k)
theorem tst_un {σ : L2.St} {H : Hp} {te : TE} {Q : Bool → Hp → Prop} (h : te σ H fun v H' => ∃ b, v = .bl b ∧ Q b H') : tTest te σ H Q := h
theorem paired_get {α β : Type} {R : α → β → Prop} : ∀ {xs : List α} {ys : List β}, Paired R xs ys → ∀ {i : Nat} {x : α}, xs[i]? = some x → ∃ y, ys[i]? = some y ∧ R x y
  | _, _, .nil, i, x, h => by cases h
  | _, _, .cons a r, 0, x, h => ⟨_, rfl, Option.some.inj h ▸ a⟩
  | _, _, .cons a r, i + 1, x, h => paired_get r (i := i) h
section
variable {A : Adr} {H : Hp} {r : PlR} {nm : V} {st : Int} {cl : List V} {dk : Kv} {th : List V} {vk : Kv} {ls : List V}
theorem RdAt.putC (R : RdAt A H r nm st cl dk th vk ls) (cl' : List V) : RdAt A (upd H r.pcl (.lst cl')) r nm st cl' dk th vk ls :=
  ⟨upd_off R.ob (fun z => by have := R.cells; rw [← z, R.ob] at this; cases this), upd_same, upd_off R.decl (fun z => by have := R.cells; rw [← z, R.decl] at this; cases this), upd_off R.thr (fun z => R.n2 z.symm), upd_off R.var (fun z => by have := R.cells; rw [← z, R.var] at this; cases this), upd_off R.lis (fun z => R.n3 z.symm), TabG.off R.tb (fun z => R.tns _ (by simp [ownR]) z.symm), R.n1, R.n2, R.n3, R.n4⟩
theorem RdAt.putD (R : RdAt A H r nm st cl dk th vk ls) (dk' : Kv) : RdAt A (upd H r.pdc (.dK dk')) r nm st cl dk' th vk ls :=
  ⟨upd_off R.ob (fun z => by have := R.decl; rw [← z, R.ob] at this; cases this), upd_off R.cells (fun z => by have := R.decl; rw [← z, R.cells] at this; cases this), upd_same, upd_off R.thr (fun z => by have := R.decl; rw [← z, R.thr] at this; cases this), upd_off R.var (fun z => R.n1 z.symm), upd_off R.lis (fun z => by have := R.decl; rw [← z, R.lis] at this; cases this), TabG.off R.tb (fun z => R.tns _ (by simp [ownR]) z.symm), R.n1, R.n2, R.n3, R.n4⟩
end
section
variable {P : Program} {w : World} {K : PySem.W.Frag} {mg : Str → Option Value} {base : Heap} {A : Adr}
theorem ok_Reader_declare_cell (TB : GxR.TabB base mg A.c_is_name A.t_is_name) (T : Txt K mg A) : FnOk P w K mg base CX0 7 A.a_Reader_declare_cell A.d_Reader_declare_cell ["self", "line", "word"] (spDC A) := by
  refine T.F_Reader_declare_cell.ok (k := 6) sc_Reader_declare_cell (fun ws H Q E ⟨_, _, _, _, _, _, _, _, _, _, _, _, _, _, _, _, _, _, e, _⟩ => by rw [e]; rfl) (fun cdv A' outer s H ws Q E hr h => ?_)
  obtain ⟨r, nm, st, cl, dk, th, vk, ls, p, ts, cs, vs, pl, mo, k, size, first, ss, rfl, R, L, np, edk, nok, nin, cf, ke, hcl, h1, h24, lcl, ldk, kQ⟩ := h
  refine ⟨_, pss_cons (ps_asg (pe_call (ok_read_cell TB T) (hr.mono (by decide)) rfl T.g_read_cell T.F_read_cell.kp T.b_read_cell .nil pass0 (pa_cons (pv 1) (pa_cons (pv 2) pa_nil))) (pg_tup (by rfl) (pgs_cons (pg_name (i := 3) sc_Reader_declare_cell.nd rfl (Or.inl rfl)) (pgs_cons (pg_name (i := 4) sc_Reader_declare_cell.nd rfl (Or.inl rfl)) pgs_nil))))
  (pss_cons (ps_expr (pe_meth0 (pv 1) T.cl_Line T.m_Line_finish (ok_Line_finish T) (hr.mono (by decide)) T.b_Line_finish .nil pass0))
  (pss_cons (ps_asg (pv 3) (pg_tup (by rfl) (pgs_cons (pg_name (i := 5) sc_Reader_declare_cell.nd rfl (Or.inl rfl)) (pgs_cons (pg_name (i := 6) sc_Reader_declare_cell.nd rfl (Or.inl rfl)) (pgs_cons (pg_name (i := 7) sc_Reader_declare_cell.nd rfl (Or.inl rfl)) pgs_nil)))))
  (C8.pss_cut (ps_if (PW.pt (pw_or (pt_cmpR op_lt (pv 6) (pe_int) (nomark _)) (pw_or1 (pt_cmpR op_gt (pe_op op_add (pe_callB (cr_sum rfl) (by rfl) T.n_sum (by decide +kernel) (pa_cons (pe_lc (own := [("_", 7), ("many", 8), ("_", 7)]) (g := gTup K 3 (gCons (gName 7) (gCons (gName 8) (gCons (gName 7) gNil)))) (tt := tYes) rfl sc_Reader_declare_cell.nd (pi_list (pe_fld (pv 0) rfl)) (blkOk_by (N := ["self", "line", "word", "cell", "n", "name", "size", "_", "many"]) (sc := defScope s_Reader_declare_cell) (by decide +kernel)) (fun _ _ _ _ _ => pg_tup (by rfl) (pgs_cons (pg_name (i := 7) sc_Reader_declare_cell.nd rfl (Or.inl rfl)) (pgs_cons (pg_name (i := 8) sc_Reader_declare_cell.nd rfl (Or.inl rfl)) (pgs_cons (pg_name (i := 7) sc_Reader_declare_cell.nd rfl (Or.inl rfl)) pgs_nil)))) (fun _ _ _ _ _ => pts_nil) (fun _ _ _ _ _ => pv 8)) pa_nil)) (pv 6)) (pe_glob (v := .int 24) rfl T.g_MOST_CELLS ⟨_, rfl⟩) (nomark _)))))
  (pss_one (ps_dead))
  (pss_nil))
  (pss_cons (ps_expr (pe_bm PySem.F.plainAttrs_list PySem.F.slot_list_append PySem.F.type_list_append mt_append (pe_fld (pv 0) rfl) (pa_cons (pv 3) pa_nil)))
  (pss_one (ps_dput (hu_of hr) (pe_fld (pv 0) rfl) (pv 5) (pe_tup (pa_cons (pv 2) (pa_cons (pv 4) pa_nil))) rfl)))))), ?_⟩
  refine sq_go ?_
  refine go_call (ta_cons (te_var rfl) (ta_cons (te_var rfl) ta_nil)) ⟨p, ts, cs, vs, pl, mo, size, first, k, rfl, L, nok, nin, cf, fun v u H1 k1 L1 hu hv eu ev => ?_⟩
  refine ⟨v, _, rfl, SqT.of ev, rfl, _, _, rfl, _, _, rfl, rfl, ?_⟩
  refine sq_go (drop_un (meth_go (te_var rfl) L1.ob rfl ta_nil ⟨p, ts, cs, vs, k, mo, rfl, L1, ke, ?_⟩))
  dsimp only
  refine sq_go ?_
  refine Te.go (te := tVar 3) (v := .ref u) (te_var rfl) ?_
  refine ⟨u, _, rfl, SqT.of eu, rfl, _, _, rfl, _, _, rfl, _, _, rfl, rfl, ?_⟩
  dsimp only
  refine set_sl (σ' := [some (.ref r.self), some (.ref p.self), some (.str "cell"), some (.ref u), some (.int 0), some (.str (tx ts pl)), some (.int size), some (.int first), none]) rfl ?_
  have nC : ∀ a ∈ ownR r, a ∉ CL A p := fun a ha z => by
    simp only [CL, List.mem_cons, List.not_mem_nil, or_false] at z
    rcases z with z | z
    · exact R.tns a ha z
    · exact np (z ▸ ha)
  have R1 := R.kept k1 nC L1.tb
  have hcl1 : Paired (CelAt H1) cl ss := paired_mapP hcl fun v s ⟨u, nm, f, e1, e2⟩ => ⟨u, nm, f, e1, k1 _ _ (fun z => by
    simp only [CL, List.mem_cons, List.not_mem_nil, or_false] at z
    rcases z with z | z
    · obtain ⟨ps, t, _⟩ := R.tb
      rw [z, t] at e2; cases e2
    · have := L.ob
      rw [← z, e2] at this; cases this) e2⟩
  refine cut_sq (sq_go (iff_un (or_un (tt_test (te_i0 (te_var rfl) te_c)) (decide_eq_false (by omega)) ?_)))
  refine tst_un (op_un (op_un (cb_un (cons_un ?_))))
  have lss : cl.length = ss.length := (paired_len hcl1).symm
  refine lc_go (ti_list (te_fld (te_var rfl) R1.ob T.cl_Reader T.no_Reader_cells rfl) (SqL.of R1.cells)) (walk_list (K := K) (a := r.pcl) (xs := cl)) (fun Z i G => Same H1 G ∧ G Z = some (.lst ((ss.take i).map V.int))) (fun Z hZ => ⟨Same.upd hZ, upd_same⟩) (fun Z i G _ h => SqL.of (h.1 _ _ R1.cells)) ?_ fun Z H2 hZ ⟨s2, e2⟩ => ?_
  · rintro Z i x G' G hZ hi ⟨sa, ea⟩ ⟨rfl, ex⟩
    obtain ⟨sz, es, u0, nm0, f0, rfl, eu0⟩ := paired_get hcl1 ex
    refine ⟨u0, _, rfl, SqT.of (sa _ _ eu0), rfl, _, _, rfl, _, _, rfl, _, _, rfl, rfl, rfl, yes_go ?_⟩
    have lt : ((ss.take i).map V.int).length < sizeLine := by
      rw [List.length_map, List.length_take, sizeLine_eq]
      have := Nat.min_le_right i ss.length
      omega
    refine Te.go (te_var rfl) ⟨_, ea, lt, fun b o e => ?_, ?_⟩
    · rw [upd_ne fun z => by rw [z, hZ] at e; cases e]
      exact sa _ _ e
    · rw [upd_same, List.take_add_one, es, List.map_append]
      rfl
  rw [lss, List.take_length] at e2
  refine nil_un ⟨Z, ss, rfl, SqL.of e2, Te.go (te_var rfl) ⟨_, _, rfl, rfl, Te.go te_c ⟨_, _, rfl, rfl, _, rfl, ?_⟩⟩⟩
  rw [if_neg (by rw [decide_eq_true_iff]; omega)]
  show tSeq _ _ _ _ _
  have R2 := R1.same s2
  have A2 : Al H H2 := (L1.al k1).trans (Al.of s2)
  have k2 : Kept (ownR r ++ CL A p) H H2 := (k1.more fun a h => List.mem_append_right _ h).trans (Kept.of s2)
  have eu2 := s2 _ _ eu
  refine sq_go (go_appC (te_fld (te_var rfl) R2.ob T.cl_Reader T.no_Reader_cells rfl) R2.cells ((ta1 (te_var rfl)) _ ⟨r.pcl, cl, .ref u, rfl, rfl, R2.cells, by rw [sizeLine_eq]; omega, ?_⟩))
  have R3 := R2.putC (cl ++ [.ref u])
  have A3 : Al H (upd H2 r.pcl (.lst (cl ++ [.ref u]))) := A2.upd
  have k3 : Kept (ownR r ++ CL A p) H (upd H2 r.pcl (.lst (cl ++ [.ref u]))) := k2.upd (by simp [ownR])
  have nuo : u ∉ ownR r := R.nOwn hu
  have nun : ∀ b ∈ ownR r, u ≠ b := fun b hb z => nuo (z ▸ hb)
  have eu3 : upd H2 r.pcl (.lst (cl ++ [.ref u])) u = some (CelO (tx ts pl) size first) := upd_off eu2 (nun _ (by simp [ownR]))
  dsimp only
  generalize upd H2 r.pcl (.lst (cl ++ [.ref u])) = H3 at R3 A3 k3 eu3 ⊢
  refine tup_un ((ta_cons (te_var rfl) (ta_cons (te_var rfl) ta_nil)) _ ⟨by show 2 ≤ sizeLine; decide, fun t ht => ?_⟩)
  have s4 : Same H3 (upd H3 t (.tup [.str "cell", .int 0])) := Same.upd ht
  have R4 := R3.same s4
  have A4 : Al H (upd H3 t (.tup [.str "cell", .int 0])) := A3.upd
  have eu4 := s4 _ _ eu3
  have k4 := k3.trans (Kept.of (C := ownR r ++ CL A p) s4)
  generalize upd H3 t (.tup [.str "cell", .int 0]) = H4 at s4 R4 A4 eu4 k4 ⊢
  have vn : valV dk (Sum.inr (tx ts pl) : Key) = none := by
    have := vals_in (z := tx ts pl) edk
    rw [decide_eq_false nin] at this
    cases h : valV dk (Sum.inr (tx ts pl) : Key) with
    | none => rfl
    | some v => rw [h] at this; cases this
  refine Te.go (te_fld (te_var rfl) R4.ob T.cl_Reader T.no_Reader_declared rfl) (Te.go (te_var rfl) ⟨r.pdc, _, rfl, DPut.k (k := .inr (tx ts pl)) R4.decl (by rw [sizeLine_eq]; omega), ?_⟩)
  rw [putK_new vn]
  exact kQ u t _ (k4.upd (by simp [ownR])) A4.upd hu (upd_off eu4 (nun _ (by simp [ownR]))) nuo (R4.putD _)
end
end K01

namespace K01
open PySem L2 YF YG
open C8 (tCut)
/-! ### a statement's first list is opened -/
def spBL (K : PySem.W.Frag) (A : Adr) : Sp := fun ws H Q _ => ∃ (r : PlR) (nm : V) (st : Int) (cl : List V) (dk : Kv) (th : List V) (vk : Kv) (l0 : List V) (po pr : Addr) (hd : Str) (ib : Bool) (sa w1 w2 : Addr), ws = [.ref r.self, .ref sa] ∧ RdAt A H r nm st cl dk th vk (l0 ++ [.ref po]) ∧ OlAt A H po pr hd ib ∧ SqT K H sa [.str "block", .non, .ref w1, .ref w2] ∧ l0.length ≤ 100 ∧
  ∀ (po' : Addr) (H' : Hp), Kept (ownR r) H H' → Al H H' → H po' = none → RdAt A H' r nm st cl dk th vk (l0 ++ [.ref po] ++ [.ref po']) → OlAt A H' po' w1 "block" true → Q .non H'
theorem asg0_un {te : TE} {g : TG} {D : Ends} {σ : L2.St} {H : Hp} (h : te σ H fun v H1 => g v σ H1 D.nx) : tAsg te g D σ H := h
theorem gname_go {i : Nat} {x : V} {σ σ' : L2.St} {H : Hp} {R : L2.St → Hp → Prop} (e : σ.set i (some x) = σ') (h : R σ' H) : gName i x σ H R := by
  subst e
  exact h
theorem te_notN {σ : L2.St} {H : Hp} {ta tb : TE} {x : V} (ha : Te ta σ H x) (hb : Te tb σ H .non) : Te (tOp (fun x y H Q => y = .non ∧ Q (.bl (!decide (x = .non))) H) ta tb) σ H (.bl (!decide (x = .non))) := fun Q q => ha _ (hb _ ⟨rfl, q⟩)
section
variable {P : Program} {w : World} {K : PySem.W.Frag} {mg : Str → Option Value} {base : Heap} {A : Adr}
theorem bd_OpenList___init___5 (T : Txt K mg A) : ∃ ds, Vals [] ds ∧ Binds K A.d_OpenList___init__ ["self", "head", "rows", "in_block", "turn", "other"] ds := T.K_OpenList___init__.binds1 6 2 (by simp) rfl fun Tt kV doc pm an cdv ct us its l1 l2 => by
  match us, its, l1, l2 with
  | [u1, u2, u3, u4, u5, u6], [i, j], _, _ => exact ⟨_, rfl, rfl⟩
theorem ok_Reader_begin_list (T : Txt K mg A) : FnOk P w K mg base CX0 3 A.a_Reader_begin_list A.d_Reader_begin_list ["self", "statement"] (spBL K A) := by
  refine T.F_Reader_begin_list.ok (k := 2) sc_Reader_begin_list (fun ws H Q E ⟨_, _, _, _, _, _, _, _, _, _, _, _, _, _, _, e, _⟩ => by rw [e]; rfl) (fun cdv A' outer s H ws Q E hr h => ?_)
  obtain ⟨r, nm, st, cl, dk, th, vk, l0, po, pr, hd, ib, sa, w1, w2, rfl, R, ⟨dxo, ho⟩, hs, ll, kQ⟩ := h
  refine ⟨_, pss_cons (ps_set (i := 2) sc_Reader_begin_list.nd rfl (Or.inl rfl) (pe_ix ix_tup (pv 1) (pe_int) (fun _ _ => rfl)))
  (pss_cons (ps_set (i := 3) sc_Reader_begin_list.nd rfl (Or.inl rfl) (pe_fld (pe_ix ix_list (pe_fld (pv 0) rfl) (pe_un un_neg pe_int) (fun _ _ => rfl)) rfl))
  (C8.pss_cut (ps_if (pt_cmpR op_eq (pv 2) (pe_str) (nomark _))
  (pss_one (ps_set (i := 4) sc_Reader_begin_list.nd rfl (Or.inl rfl) (pe_make T.mk_OpenList (ok_OpenList___init__ T) (hr.mono (by decide)) rfl T.g_OpenList (bd_OpenList___init___5 T).choose_spec.2 (bd_OpenList___init___5 T).choose_spec.1 pass0 (pa_cons (pv 2) (pa_cons (pe_ix ix_tup (pv 1) (pe_int) (fun _ _ => rfl)) (pa_cons (pv 3) (pa_cons (pe_str) (pa_cons (pe_ix ix_tup (pv 1) (pe_int) (fun _ _ => rfl)) pa_nil))))))))
  (pss_one (ps_if (pt_cmpR op_eq (pv 2) (pe_str) (nomark _))
  (pss_one (ps_set (i := 4) sc_Reader_begin_list.nd rfl (Or.inl rfl) (pe_make T.mk_OpenList (ok_OpenList___init__ T) (hr.mono (by decide)) rfl T.g_OpenList (bd_OpenList___init___5 T).choose_spec.2 (bd_OpenList___init___5 T).choose_spec.1 pass0 (pa_cons (pv 2) (pa_cons (pe_ix ix_tup (pv 1) (pe_int) (fun _ _ => rfl)) (pa_cons (pv 3) (pa_cons (pe_str) (pa_cons (pe_ix ix_tup (pv 1) (pe_int) (fun _ _ => rfl)) pa_nil))))))))
  (pss_one (ps_if (PW.pt (pw_and (pt_cmpR op_eq (pv 2) (pe_str) (nomark _)) (pw_and1 (pt_cmpR op_notN (pe_ix ix_tup (pv 1) (pe_int) (fun _ _ => rfl)) (pe_non) (nomark _)))))
  (pss_one (ps_set (i := 4) sc_Reader_begin_list.nd rfl (Or.inl rfl) (pe_make T.mk_OpenList (ok_OpenList___init__ T) (hr.mono (by decide)) rfl T.g_OpenList (bd_OpenList___init___5 T).choose_spec.2 (bd_OpenList___init___5 T).choose_spec.1 pass0 (pa_cons (pv 2) (pa_cons (pe_ix ix_tup (pv 1) (pe_int) (fun _ _ => rfl)) (pa_cons (pe_bl) (pa_cons (pe_str) (pa_cons (pe_ix ix_tup (pv 1) (pe_int) (fun _ _ => rfl)) pa_nil))))))))
  (pss_one (ps_set (i := 4) sc_Reader_begin_list.nd rfl (Or.inl rfl) (pe_make T.mk_OpenList (ok_OpenList___init__ T) (hr.mono (by decide)) rfl T.g_OpenList (bd_OpenList___init___3 T).choose_spec.2 (bd_OpenList___init___3 T).choose_spec.1 pass0 (pa_cons (pv 2) (pa_cons (pe_ix ix_tup (pv 1) (pe_int) (fun _ _ => rfl)) (pa_cons (pe_or (pv 3) (pe_one (pe_cmpR op_eq (pv 2) (pe_str) (nomark _)))) pa_nil)))))))))))
  (pss_one (ps_expr (pe_bm PySem.F.plainAttrs_list PySem.F.slot_list_append PySem.F.type_list_append mt_append (pe_fld (pv 0) rfl) (pa_cons (pv 4) pa_nil)))))), ?_⟩
  refine asg_te (te_ixT (te_var rfl) te_c hs (atI_nat (j := 0) rfl)) ?_
  refine asg_te (te_fld (te_last (te_fld (te_var rfl) R.ob T.cl_Reader T.no_Reader_lists rfl) (te_neg te_c) (SqL.of R.lis)) ho T.cl_OpenList T.no_OpenList_in_block rfl) ?_
  refine set_sl (σ' := [some (.ref r.self), some (.ref sa), some (.str "block"), some (.bl ib), none]) rfl ?_
  refine cut_sq (sq_go ?_)
  refine if_go (b := false) (tt_test (te_eqF (x := .str "block") (te_var rfl) te_c rfl (by decide))) (fun z => nomatch z) fun _ => ?_
  refine if_go (b := false) (tt_test (te_eqF (x := .str "block") (te_var rfl) te_c rfl (by decide))) (fun z => nomatch z) fun _ => ?_
  refine if_go (b := false) (tt_and (a := true) (b := false) (tt_test (te_eqT (x := .str "block") (te_var rfl) te_c rfl)) fun _ => tt_test (te_notN (te_ixT (te_var rfl) te_c hs (v := .non) (atI_nat (j := 1) rfl)) te_c)) (fun z => nomatch z) fun _ => ?_
  refine asg0_un (make_un (cons_un (Te.go (te_var rfl) (cons_un (Te.go (te_ixT (te_var rfl) te_c hs (v := .ref w1) (atI_nat (j := 2) rfl)) (cons_un (Te.go (te_orV (a := ib) (b := true) (te_var rfl) fun _ => te_eqT (x := .str "block") (te_var rfl) te_c rfl) (nil_un fun x dx hx hdx ndx => ?_))))))))
  have s1 : Same H (upd (upd H dx (.own x)) x (.ins A.a_OpenList dx [])) := (Same.upd hdx).trans (Same.upd (by rw [upd_ne ndx.symm]; exact hx))
  have e1 : upd (upd H dx (.own x)) x (.ins A.a_OpenList dx []) x = some (.ins A.a_OpenList dx []) := upd_same
  have R1 := R.same s1
  have A1 : Al H (upd (upd H dx (.own x)) x (.ins A.a_OpenList dx [])) := Al.of s1
  have nx : x ∉ ownR r := R.nOwn hx
  have tnx : A.t_is_name ≠ x := fun z => by
    obtain ⟨ps, t, _⟩ := R.tb
    rw [z, hx] at t; cases t
  generalize upd (upd H dx (.own x)) x (.ins A.a_OpenList dx []) = H1 at s1 e1 R1 A1 ⊢
  rw [show (ib || true) = true by cases ib <;> rfl]
  refine ⟨x, dx, w1, "block", true, rfl, e1, fun H2 k2 ol => ⟨rfl, ?_⟩⟩
  have R2 : RdAt A H2 r nm st cl dk th vk (l0 ++ [.ref po]) := R1.kept (C := [x]) (fun b o n e => k2 b o (by simpa using n) e) (fun a ha z => nx (by rw [← List.mem_singleton.mp z]; exact ha)) (by
    obtain ⟨ps, t1, t2⟩ := R1.tb
    exact ⟨ps, k2 _ _ tnx t1, t2⟩)
  have K2 : Kept (ownR r) H H2 := (Kept.of s1).fresh hx k2
  have A2 : Al H H2 := A1.trans fun a e => by
    by_cases z : a = x
    · obtain ⟨dxo, o⟩ := ol
      rw [z, o] at e; cases e
    · cases h : H1 a with
      | none => rfl
      | some w => rw [k2 _ _ z h] at e; cases e
  refine gname_go (σ' := [some (.ref r.self), some (.ref sa), some (.str "block"), some (.bl ib), some (.ref x)]) rfl ?_
  dsimp only
  refine go_appC (te_fld (te_var rfl) R2.ob T.cl_Reader T.no_Reader_lists rfl) R2.lis ((ta1 (te_var rfl)) _ ⟨r.pls, _, .ref x, rfl, rfl, R2.lis, by rw [List.length_append, sizeLine_eq]; show l0.length + 1 < _; omega, ?_⟩)
  obtain ⟨dxo, o⟩ := ol
  exact kQ x _ (K2.upd (by simp [ownR])) A2.upd hx (R2.putLs _) ⟨dxo, upd_off o (fun z => nx (by rw [z]; simp [ownR]))⟩
end
end K01

namespace K01
open PySem L2 YF YG
open C8 (tCut)
def PairAt (H : Hp) (kv : Key × V) (v : V) : Prop := ∃ a, v = .ref a ∧ H a = some (.tup [kV kv.1, kv.2])
def spEL (A : Adr) : Sp := fun ws H Q _ => ∃ (r : PlR) (nm : V) (st : Int) (cl : List V) (dk : Kv) (th : List V) (vk : Kv) (l0 : List V) (po pr : Addr) (hd : Str) (ib : Bool) (xs : List V) (p : PlL) (ts : List Tk) (cs vs : List Str) (mo : Nat), ws = [.ref r.self, .ref p.self] ∧ RdAt A H r nm st cl dk th vk (l0 ++ [.ref po]) ∧ OlAt A H po pr hd ib ∧ H pr = some (.lst xs) ∧ pr ∉ ownR r ∧ po ∉ ownR r ∧
  LnAt A H p ts cs vs ts.length mo ∧ th.length ≤ 100 ∧
  ((hd ≠ "thread" ∧ ∀ H', Kept (ownR r) H H' → Al H H' → RdAt A H' r nm st cl dk th vk l0 → Q .non H') ∨
  (hd = "thread" ∧ l0 = [] ∧ ∀ (t q1 q2 dxt : Addr) (ps : List V) (H' : Hp), Kept (ownR r) H H' → Al H H' → RdAt A H' r nm st cl dk (th ++ [.ref t]) vk [] → H t = none → H q1 = none → H q2 = none → H' t = some (.ins A.a_Thread dxt [("name", nm), ("variables", .ref q1), ("body", .ref q2)]) → H' q1 = some (.lst ps) → Paired (PairAt H') vk ps → H' q2 = some (.lst xs) → Q .non H'))
section
variable {P : Program} {w : World} {K : PySem.W.Frag} {mg : Str → Option Value} {base : Heap} {A : Adr}
theorem bm0_un {σ : L2.St} {H : Hp} {T : String} {r : V → List V → Hp → VK → Prop} {to : TE} {Q : VK} (h : to σ H fun x H1 => tyV K T x H1 ∧ r x [] H1 Q) : tBM0 K T r to σ H Q := h
theorem ok_Reader_end_list (T : Txt K mg A) : FnOk P w K mg base CX0 3 A.a_Reader_end_list A.d_Reader_end_list ["self", "line"] (spEL A) := by
  refine T.F_Reader_end_list.ok (k := 2) sc_Reader_end_list (fun ws H Q E ⟨_, _, _, _, _, _, _, _, _, _, _, _, _, _, _, _, _, _, e, _⟩ => by rw [e]; rfl) (fun cdv A' outer s H ws Q E hr h' => ?_)
  obtain ⟨r, nm, st, cl, dk, th, vk, l0, po, pr, hd, ib, xs, p, ts, cs, vs, mo, rfl, R, ⟨dxo, ho⟩, hx, npr, npo, L, lt, hk⟩ := h'
  refine ⟨_, pss_cons (ps_expr (pe_meth0 (pv 1) T.cl_Line T.m_Line_finish (ok_Line_finish T) (hr.mono (by decide)) T.b_Line_finish .nil pass0))
  (pss_cons (ps_set (i := 2) sc_Reader_end_list.nd rfl (Or.inl rfl) (pe_bm0 PySem.F.plainAttrs_list PySem.F.slot_list_pop PySem.F.type_list_pop mt_pop (pe_fld (pv 0) rfl)))
  (pss_one (ps_if (pt_cmpR op_eq (pe_fld (pv 2) rfl) (pe_str) (nomark _))
  (pss_one (ps_expr (pe_bm PySem.F.plainAttrs_list PySem.F.slot_list_append PySem.F.type_list_append mt_append (pe_fld (pv 0) rfl) (pa_cons (pe_make T.mk_Thread (ok_Thread___init__ T) (hr.mono (by decide)) rfl T.g_Thread T.b_Thread___init__ .nil pass0 (pa_cons (pe_fld (pv 0) rfl) (pa_cons (pe_callTy (call_listIt rfl) (by rfl) T.n_list (by decide +kernel) (pa_cons (pe_bm0 PySem.F.plainAttrs_dict PySem.F.slot_dict_items PySem.F.type_dict_items mt_itemsK (pe_fld (pv 0) rfl)) pa_nil)) (pa_cons (pe_fld (pv 2) rfl) pa_nil)))) pa_nil))))
  (pss_nil)))), ?_⟩
  refine sq_go (drop_un (meth_go (te_var rfl) L.ob rfl ta_nil ⟨p, ts, cs, vs, ts.length, mo, rfl, L, rfl, ?_⟩))
  refine sq_go (go_popA (xs := l0) (te_fld (te_var rfl) R.ob T.cl_Reader T.no_Reader_lists rfl) R.lis ?_)
  refine set_sl (σ' := [some (.ref r.self), some (.ref p.self), some (.ref po)]) rfl ?_
  have R1 := R.putLs l0
  have K1 : Kept (ownR r) H (upd H r.pls (.lst l0)) := Kept.refl.upd (by simp [ownR])
  have A1 : Al H (upd H r.pls (.lst l0)) := Al.upd fun _ e => e
  have o1 : upd H r.pls (.lst l0) po = some (.ins A.a_OpenList dxo (fldO hd pr ib)) := upd_off ho (fun z => npo (by rw [z]; simp [ownR]))
  have x1 : upd H r.pls (.lst l0) pr = some (.lst xs) := upd_off hx (fun z => npr (by rw [z]; simp [ownR]))
  generalize upd H r.pls (.lst l0) = H1 at R1 K1 A1 o1 x1 ⊢
  rcases hk with ⟨hn, kQ⟩ | ⟨rfl, rfl, kQ⟩
  · refine if_go (b := false) (tt_test (te_eqF (x := .str hd) (te_fld (te_var rfl) o1 T.cl_OpenList T.no_OpenList_head rfl) te_c rfl (fun z => hn (V.str.inj z)))) (fun z => nomatch z) fun _ => ?_
    exact kQ _ K1 A1 R1
  refine if_go (b := true) (tt_test (te_eqT (te_fld (te_var rfl) o1 T.cl_OpenList T.no_OpenList_head rfl) te_c rfl)) (fun _ => ?_) (fun z => nomatch z)
  refine go_appC (te_fld (te_var rfl) R1.ob T.cl_Reader T.no_Reader_threads rfl) R1.thr (cons_un (make_un (cons_un (Te.go (te_fld (te_var rfl) R1.ob T.cl_Reader T.no_Reader_name rfl) (cons_un (cb_un (cons_un (bm0_un ?_))))))))
  refine Te.go (te_fld (te_var rfl) R1.ob T.cl_Reader T.no_Reader_variables rfl) ⟨.inr (.inr (.inl ⟨rfl, .inl ⟨_, R1.var⟩⟩)), r.pvr, vk, rfl, rfl, R1.var, fun vw hvw => nil_un ?_⟩
  have s2 : Same H1 (upd H1 vw (DX.itemsO vw r.pvr)) := Same.upd hvw
  have e2 : upd H1 vw (DX.itemsO vw r.pvr) vw = some (DX.itemsO vw r.pvr) := upd_same
  have R2 := R1.same s2
  have A2 : Al H (upd H1 vw (DX.itemsO vw r.pvr)) := A1.upd
  generalize upd H1 vw (DX.itemsO vw r.pvr) = H2 at s2 e2 R2 A2 ⊢
  refine ⟨vw, r.pvr, vk, rfl, e2, R2.var, fun H3 l ps hl s3 el lps pps => ?_⟩
  have R3 := R2.same s3
  have A3 : Al H H3 := A2.trans (Al.of s3)
  have x3 := s3 _ _ (s2 _ _ x1)
  refine cons_un (Te.go (te_fld (te_var rfl) (s3 _ _ (s2 _ _ o1)) T.cl_OpenList T.no_OpenList_rows rfl) (nil_un fun t dxt ht hdt ndt => ?_))
  have s4 : Same H3 (upd (upd H3 dxt (.own t)) t (.ins A.a_Thread dxt [])) := (Same.upd hdt).trans (Same.upd (by rw [upd_ne ndt.symm]; exact ht))
  have e4 : upd (upd H3 dxt (.own t)) t (.ins A.a_Thread dxt []) t = some (.ins A.a_Thread dxt []) := upd_same
  have R4 := R3.same s4
  have A4 : Al H (upd (upd H3 dxt (.own t)) t (.ins A.a_Thread dxt [])) := A3.trans (Al.of s4)
  have nt : t ∉ ownR r := R3.nOwn ht
  have tnt : A.t_is_name ≠ t := fun z => by
    obtain ⟨ps', t', _⟩ := R3.tb
    rw [z, ht] at t'; cases t'
  have np : ∀ b ∈ ps, b ≠ t := fun b hb z => by
    obtain ⟨j, hj⟩ := List.mem_iff_getElem?.mp hb
    obtain ⟨k, v, _, e⟩ := pps j b hj
    rw [z, ht] at e; cases e
  have htH : H t = none := A3 _ ht
  have K4 : Kept (ownR r) H (upd (upd H3 dxt (.own t)) t (.ins A.a_Thread dxt [])) := K1.trans (((Kept.of s2).trans (Kept.of s3)).trans (Kept.of s4))
  have x4 := s4 _ _ x3
  have l4 := s4 _ _ el
  have p4 : ∀ (j : Nat) (b : Addr), ps[j]? = some b → ∃ k v, vk[j]? = some (k, v) ∧ (upd (upd H3 dxt (.own t)) t (.ins A.a_Thread dxt [])) b = some (.tup [kV k, v]) := fun j b h => by
    obtain ⟨k, v, h1, h2⟩ := pps j b h
    exact ⟨k, v, h1, s4 _ _ h2⟩
  generalize upd (upd H3 dxt (.own t)) t (.ins A.a_Thread dxt []) = H4 at s4 e4 R4 A4 K4 x4 l4 p4 ⊢
  refine ⟨t, dxt, l, pr, nm, ps.map V.ref, xs, rfl, e4, l4, x4, fun q1 q2 H5 k5 hq1 hq2 e5 e51 e52 => ⟨rfl, nil_un ?_⟩⟩
  have R5 : RdAt A H5 r nm st cl dk th vk [] := R4.kept (C := [t]) (fun b o n e => k5 b o (by simpa using n) e) (fun a ha z => nt (by rw [← List.mem_singleton.mp z]; exact ha)) (by
    obtain ⟨ps', t1, t2⟩ := R4.tb
    exact ⟨ps', k5 _ _ tnt t1, t2⟩)
  have K5 : Kept (ownR r) H H5 := K4.fresh htH k5
  have A5 : Al H H5 := A4.trans fun a e => by
    by_cases z : a = t
    · rw [z, e5] at e; cases e
    · cases h : H4 a with
      | none => rfl
      | some w => rw [k5 _ _ z h] at e; cases e
  refine ⟨r.pth, th, .ref t, rfl, rfl, R5.thr, by rw [sizeLine_eq]; omega, ?_⟩
  have R6 := R5.putTh (th ++ [.ref t])
  have nth : ∀ {b : Addr} {o : HO}, H5 b = some o → b ≠ r.pth → upd H5 r.pth (.lst (th ++ [.ref t])) b = some o := fun e n => upd_off e n
  have t5 : t ≠ r.pth := fun z => nt (by rw [z]; simp [ownR])
  have nq1 : q1 ∉ ownR r := R4.nOwn hq1
  have nq2 : q2 ∉ ownR r := R4.nOwn hq2
  refine kQ t q1 q2 dxt (ps.map V.ref) _ (K5.upd (by simp [ownR])) A5.upd R6 htH (A4 _ hq1) (A4 _ hq2) (nth e5 t5) (nth e51 fun z => nq1 (by rw [z]; simp [ownR])) ?_ (nth e52 fun z => nq2 (by rw [z]; simp [ownR]))
  have key : ∀ (vk : Kv) (ps : List Addr), ps.length = vk.length → (∀ (j : Nat) (b : Addr), ps[j]? = some b → ∃ k v, vk[j]? = some (k, v) ∧ upd H5 r.pth (.lst (th ++ [.ref t])) b = some (.tup [kV k, v])) → Paired (PairAt (upd H5 r.pth (.lst (th ++ [.ref t])))) vk (ps.map V.ref) := by
    intro vk ps
    induction ps generalizing vk with
    | nil =>
      intro h _
      cases vk with
      | nil => exact .nil
      | cons _ _ => simp at h
    | cons b r' ih =>
      intro h g
      cases vk with
      | nil => simp at h
      | cons kv vk =>
        obtain ⟨k, v, h1, h2⟩ := g 0 b rfl
        have : kv = (k, v) := Option.some.inj h1
        subst this
        exact .cons ⟨b, rfl, h2⟩ (ih vk (by simpa using h) fun j b hj => g (j + 1) b (by simpa using hj))
  refine key vk ps lps fun j b hj => ?_
  obtain ⟨k, v, h1, h2⟩ := p4 j b hj
  refine ⟨k, v, h1, nth (k5 _ _ (np b (List.mem_of_getElem? hj)) h2) fun z => ?_⟩
  have := R4.thr
  rw [← z, h2] at this
  cases this
end
end K01

namespace K01
open PySem L2 YF YG
open C8 (tCut)
theorem bm_un {K : PySem.W.Frag} {σ : L2.St} {H : Hp} {T : String} {r : V → List V → Hp → VK → Prop} {to : TE} {t : TA} {Q : VK} (h : to σ H fun x H1 => tyV K T x H1 ∧ t σ H1 fun xs H2 => r x xs H2 Q) : tBM K T r to t σ H Q := h
def noL : D → Bool
  | .lst _ => false
  | .tup d => noL d
  | .cons d e => noL d && noL e
  | _ => true
theorem rp_thin {K : PySem.W.Frag} {H : Hp} {B : List Addr} (nb : ∀ a ∈ B, ∀ o, H a = some o → (∀ xs, o ≠ .tup xs) ∧ ∀ ob u, o ≠ .frz ob u) : ∀ {d : D} {vs : List V}, noL d = true → Rp K H d vs → Rp K (kl B H) d vs
  | .non, _, _, h => h
  | .bl _, _, _, h => h
  | .int _, _, _, h => h
  | .str _, _, _, h => h
  | .nil, _, _, h => h
  | .lst _, _, q, _ => nomatch q
  | .tup d, _, q, ⟨a, xs, e1, h1, h2, h3⟩ => ⟨a, xs, e1, by
      rcases h1 with (h1 | ⟨o, h1⟩) | h1
      · exact .inl (.inl (kl_at h1 fun z => (nb a z _ h1).1 _ rfl))
      · exact .inl (.inr ⟨o, kl_at h1 fun z => (nb a z _ h1).2 _ _ rfl⟩)
      · exact .inr h1, h2, rp_thin nb (d := d) q h3⟩
  | .cons d r, _, q, ⟨x, xs, e1, h1, h2⟩ => by
    have q : (noL d && noL r) = true := q
    rw [Bool.and_eq_true] at q
    exact ⟨x, xs, e1, rp_thin nb q.1 h1, rp_thin nb q.2 h2⟩
/-! what is read holds no lists -/
def Ns (R : Rl) : Prop := ∀ mo pl e q, R mo pl e q → noL e.d = true
theorem ns_num {m : Int} : noL (Ex.num m).d = true := rfl
theorem ns_one {u : Str} {a : Ex} (h : noL a.d = true) : noL (Ex.one u a).d = true := by simp [Ex.d, noL, h]
theorem ns_two {u : Str} {a b : Ex} (h : noL a.d = true) (h' : noL b.d = true) : noL (Ex.two u a b).d = true := by simp [Ex.d, noL, h, h']
theorem ns_cell {u : Str} {a : Ex} (h : noL a.d = true) : noL (Ex.cell u a).d = true := by simp [Ex.d, noL, h]
section
variable {X : Tx}
theorem ns_chain {ops : List (Str × Str)} {sub : Rl} {mo k : Nat} {e e' : Ex} {pl q : Nat} (h : Ns sub) (c : Chain X ops sub mo k e pl e' q) : noL e.d = true → noL e'.d = true := by
  induction c with
  | nil f n => exact id
  | cons f m s r ih => exact fun t => ih (ns_two t (h _ _ _ _ s))
theorem ns_lft {ops : List (Str × Str)} {r : Rl} (h : Ns r) : Ns (Lft X ops r) := fun mo pl e q ⟨k, a, p1, h1, c⟩ => ns_chain h c (h _ _ _ _ h1)
theorem ns_cmp {r : Rl} (h : Ns r) : Ns (Cmp X r) := fun mo pl e q ⟨a, p1, h1, f, h2⟩ => by
  rcases h2 with ⟨_, rfl, _⟩ | ⟨u, b, _, h3, rfl⟩
  · exact h _ _ _ _ h1
  · cases swp (tx X.ts p1)
    · exact ns_two (h _ _ _ _ h1) (h _ _ _ _ h3)
    · exact ns_two (h _ _ _ _ h3) (h _ _ _ _ h1)
theorem ns_ntt {r s : Rl} (h : Ns r) (h' : Ns s) : Ns (Ntt X r s) := fun mo pl e q o => by
  rcases o with ⟨_, o⟩ | ⟨_, _, a, o, rfl⟩
  · exact h' _ _ _ _ o
  · exact ns_one (h _ _ _ _ o)
theorem ns_sgn {r s : Rl} (h : Ns r) (h' : Ns s) : Ns (Sgn X r s) := fun mo pl e q o => by
  rcases o with ⟨_, o⟩ | ⟨_, _, _, rfl, _⟩ | ⟨_, _, _, a, o, rfl⟩
  · exact h' _ _ _ _ o
  · rfl
  · exact ns_one (h _ _ _ _ o)
theorem ns_prn {r : Rl} (h : Ns r) : Ns (Prn X r) := fun mo pl e q ⟨_, _, o, _⟩ => h _ _ _ _ o
theorem ns_idx {r : Rl} (h : Ns r) : Ns (Idx X r) := fun mo pl e q o => by
  rcases o with ⟨_, o⟩ | ⟨_, rfl, _⟩
  · exact h _ _ _ _ o
  · rfl
theorem ns_atm {r : Rl} (h : Ns r) : Ns (Atm X r) := fun mo pl e q o => by
  rcases o with ⟨_, _, rfl, _⟩ | ⟨_, _, o⟩ | ⟨_, _, _, _, _, rfl, _⟩ | ⟨_, _, _, _, _, _, a, o, rfl⟩
  · rfl
  · exact h _ _ _ _ o
  · rfl
  · exact ns_cell (ns_idx h _ _ _ _ o)
theorem ns_le : ∀ n, Ns (LE X n).ex ∧ Ns (LE X n).nt ∧ Ns (LE X n).sg
  | 0 => ⟨fun _ _ _ _ h => h.elim, fun _ _ _ _ h => h.elim, fun _ _ _ _ h => h.elim⟩
  | n + 1 => by
    have ih := ns_le n
    have s : Ns (LE X (n + 1)).sg := ns_sgn ih.2.2 (ns_atm (ns_prn ih.1))
    have t : Ns (LE X (n + 1)).nt := ns_ntt ih.2.1 (ns_cmp (ns_lft (ns_lft s)))
    exact ⟨ns_lft (ns_lft t), t, s⟩
end
/-! statements under way -/
theorem rp_row_len {K : PySem.W.Frag} {H : Hp} : ∀ {ds : List D} {vs : List V}, Rp K H (D.row ds) vs → vs.length = ds.length
  | [], vs, h => by have h : vs = [] := h; rw [h]; rfl
  | d :: r, vs, ⟨x, xs, e, _, h⟩ => by rw [e, List.length_cons, List.length_cons, rp_row_len h]
theorem Form.noL {X : Tx} {n mo pl nw q : Nat} {wd sw : Str} {ds : List D} (h : Form X n wd mo pl sw ds nw q) : noL (D.row ds) = true := by
  cases h with
  | later ib h => simp [D.row, K01.noL, (ns_le n).1 _ _ _ _ h]
  | atomic ib h => rfl
theorem Form.rep {X : Tx} {n mo pl nw q : Nat} {wd sw : Str} {ds : List D} (h : Form X n wd mo pl sw ds nw q) : repI sw = 0 := by
  cases h with
  | later ib h => decide
  | atomic ib h => decide
section
variable {K : PySem.W.Frag} {C : List Addr} {H H' : Hp} {sw : Str} {ds : List D} {wl : List Addr} {s : V}
theorem StAt.mono (h : StAt K C H sw ds wl s) (e : Same (kl C H) (kl C H')) (hw : ∀ w ∈ wl, H' w = some (.lst [])) : StAt K C H' sw ds wl s := by
  obtain ⟨a, vs, e1, h1, h2, _, h4⟩ := h
  exact ⟨a, vs, e1, Same.sqT e h1, Rp.mono e h2, hw, h4⟩
theorem sqT_thin {B : List Addr} {a : Addr} {xs : List V} (nb : ∀ a ∈ B, ∀ o, H a = some o → (∀ xs, o ≠ .tup xs) ∧ ∀ ob u, o ≠ .frz ob u) (h1 : SqT K H a xs) : SqT K (kl B H) a xs := by
  rcases h1 with (h1 | ⟨o, h1⟩) | h1
  · exact .inl (.inl (kl_at h1 fun z => (nb a z _ h1).1 _ rfl))
  · exact .inl (.inr ⟨o, kl_at h1 fun z => (nb a z _ h1).2 _ _ rfl⟩)
  · exact .inr h1
theorem kl_app {B : List Addr} : Same (kl B (kl C H)) (kl (B ++ C) H) := fun b o e => by
  obtain ⟨n1, e⟩ := kl_inv e
  obtain ⟨n2, e⟩ := kl_inv e
  exact kl_at e fun z => (List.mem_append.mp z).elim n1 n2
theorem StAt.thin {B : List Addr} (h : StAt K C H sw ds wl s) (nl : noL (D.row ds) = true) (nb : ∀ a ∈ B, ∀ o, H a = some o → (∀ xs, o ≠ .tup xs) ∧ ∀ ob u, o ≠ .frz ob u) : StAt K (B ++ C) H sw ds wl s := by
  obtain ⟨a, vs, e1, h1, h2, h3, h4⟩ := h
  have nb' : ∀ a ∈ B, ∀ o, kl C H a = some o → (∀ xs, o ≠ .tup xs) ∧ ∀ ob u, o ≠ .frz ob u := fun a ha o e => nb a ha o (kl_inv e).2
  exact ⟨a, vs, e1, Same.sqT kl_app (sqT_thin nb' h1), Rp.mono kl_app (rp_thin nb' nl h2), h3, h4⟩
end
section
variable {A : Adr} {H : Hp} {r : PlR} {nm : V} {st : Int} {cl : List V} {dk : Kv} {th : List V} {vk : Kv} {ls : List V}
theorem OlAt.nCL {p : PlL} {ts : List Tk} {cs vs : List Str} {pl mo : Nat} {po pr : Addr} {hd : Str} {ib : Bool} (h : OlAt A H po pr hd ib) (L : LnAt A H p ts cs vs pl mo) : po ∉ CL A p := fun z => by
  obtain ⟨dx, h⟩ := h
  simp only [CL, List.mem_cons, List.not_mem_nil, or_false] at z
  rcases z with z | z
  · obtain ⟨ps, t, _⟩ := L.tb
    rw [z, t] at h; cases h
  · have := L.ob
    rw [← z, h] at this
    have := Option.some.inj this
    injection this with _ _ h3
    exact absurd (show 5 = 8 from congrArg List.length h3) (by decide)
theorem OlAt.nOwn {po pr : Addr} {hd : Str} {ib : Bool} (h : OlAt A H po pr hd ib) (R : RdAt A H r nm st cl dk th vk ls) : po ∉ ownR r := fun z => by
  obtain ⟨dx, h⟩ := h
  have l1 := R.ob
  have l2 := R.cells
  have l3 := R.decl
  have l4 := R.thr
  have l5 := R.var
  have l6 := R.lis
  simp only [ownR, List.mem_cons, List.not_mem_nil, or_false] at z
  rcases z with rfl | rfl | rfl | rfl | rfl | rfl
  · rw [h] at l1
    have := Option.some.inj l1
    injection this with _ _ h3
    exact absurd (show 5 = 7 from congrArg List.length h3) (by decide)
  · rw [h] at l2; cases l2
  · rw [h] at l3; cases l3
  · rw [h] at l4; cases l4
  · rw [h] at l5; cases l5
  · rw [h] at l6; cases l6
theorem RdAt.noTup (R : RdAt A H r nm st cl dk th vk ls) : ∀ a ∈ ownR r, ∀ o, H a = some o → (∀ xs, o ≠ .tup xs) ∧ ∀ ob u, o ≠ .frz ob u := fun a ha o h => by
  have l1 := R.ob
  have l2 := R.cells
  have l3 := R.decl
  have l4 := R.thr
  have l5 := R.var
  have l6 := R.lis
  simp only [ownR, List.mem_cons, List.not_mem_nil, or_false] at ha
  rcases ha with rfl | rfl | rfl | rfl | rfl | rfl
  · rw [l1] at h; cases h; exact ⟨(by intro _ z; cases z), (by intro _ _ z; cases z)⟩
  · rw [l2] at h; cases h; exact ⟨(by intro _ z; cases z), (by intro _ _ z; cases z)⟩
  · rw [l3] at h; cases h; exact ⟨(by intro _ z; cases z), (by intro _ _ z; cases z)⟩
  · rw [l4] at h; cases h; exact ⟨(by intro _ z; cases z), (by intro _ _ z; cases z)⟩
  · rw [l5] at h; cases h; exact ⟨(by intro _ z; cases z), (by intro _ _ z; cases z)⟩
  · rw [l6] at h; cases h; exact ⟨(by intro _ z; cases z), (by intro _ _ z; cases z)⟩
end
def spAS (K : PySem.W.Frag) (A : Adr) (n : Nat) : Sp := fun ws H Q _ => ∃ (r : PlR) (nm : V) (st : Int) (cl : List V) (dk : Kv) (th : List V) (vk : Kv) (l0 : List V) (po pr : Addr) (hd : Str) (ib : Bool) (xs : List V) (p : PlL) (X : Tx) (pl mo : Nat) (wd sw : Str) (ds : List D) (nw : Nat), ws = [.ref r.self, .ref p.self, .str wd] ∧ RdAt A H r nm st cl dk th vk (l0 ++ [.ref po]) ∧ OlAt A H po pr hd ib ∧
  (∀ v ∈ l0 ++ [.ref po], ∃ po pr hd ib, v = .ref po ∧ OlAt A H po pr hd ib ∧ hd ≠ "repeat") ∧ H pr = some (.lst xs) ∧ pr ∉ ownR r ∧ p.self ∉ ownR r ∧ LnAt A H p X.ts X.cs X.vs pl mo ∧ X.ib = p.ib ∧ Form X n wd mo pl sw ds nw X.ts.length ∧ st + 1 ≤ 80 ∧ l0.length ≤ 4 ∧ xs.length ≤ 100 ∧
  ∀ (s : V) (wl : List Addr) (H' : Hp), Kept (pr :: (ownR r ++ CL A p)) H H' → Al H H' → H' pr = some (.lst (xs ++ [s])) → StAt K (pr :: (ownR r ++ (CL A p ++ wl))) H' sw ds wl s → wl.length = nw → (∀ w ∈ wl, H w = none) →
    ((nw = 0 ∧ RdAt A H' r nm (st + 1) cl dk th vk (l0 ++ [.ref po])) ∨ ∃ po' w1 w2, wl = [w1, w2] ∧ H po' = none ∧ RdAt A H' r nm (st + 1) cl dk th vk (l0 ++ [.ref po] ++ [.ref po']) ∧ OlAt A H' po' w1 "block" true) → Q .non H'
section
variable {P : Program} {w : World} {K : PySem.W.Frag} {mg : Str → Option Value} {base : Heap} {A : Adr} {n : Nat}
theorem ok_Reader_add_statements (FT : FmT K w A) (T : Txt K mg A) (hx : FnOk P w K mg base CX0 (11 * n + 6) A.a_read_expression A.d_read_expression ["line"] (spRd K A fun X => (LE X n).ex)) : FnOk P w K mg base CX0 (11 * n + 9) A.a_Reader_add_statements A.d_Reader_add_statements ["self", "line", "word"] (spAS K A n) := by
  refine T.F_Reader_add_statements.ok (k := 11 * n + 8) sc_Reader_add_statements (fun ws H Q E ⟨_, _, _, _, _, _, _, _, _, _, _, _, _, _, _, _, _, _, _, _, _, e, _⟩ => by rw [e]; rfl) (fun cdv A' outer s H ws Q E hr h' => ?_)
  obtain ⟨r, nm, st, cl, dk, th, vk, l0, po, pr, hd, ib, xs, p, X, pl, mo, wd, sw, ds, nw, rfl, R, ol, hops, hx0, npr, nps, L, xib, fm, l80, ll0, lxs, kQ⟩ := h'
  refine ⟨_, pss_cons (ps_set (i := 3) sc_Reader_add_statements.nd rfl (Or.inl rfl) (pe_call (ok_read_statements FT T hx) (hr.mono (by omega)) rfl T.g_read_statements T.F_read_statements.kp T.b_read_statements .nil pass0 (pa_cons (pv 1) (pa_cons (pv 2) pa_nil))))
  (pss_cons (ps_expr (pe_meth0 (pv 1) T.cl_Line T.m_Line_finish (ok_Line_finish T) (hr.mono (by omega)) T.b_Line_finish .nil pass0))
  (pss_cons (ps_asg (pe_call (ok_measure T) (hr.mono (by omega)) rfl T.g_measure T.F_measure.kp T.b_measure .nil pass0 (pa_cons (pv 3) pa_nil)) (pg_tup (by rfl) (pgs_cons (pg_name (i := 4) sc_Reader_add_statements.nd rfl (Or.inl rfl)) (pgs_cons (pg_name (i := 5) sc_Reader_add_statements.nd rfl (Or.inl rfl)) (pgs_cons (pg_name (i := 6) sc_Reader_add_statements.nd rfl (Or.inl rfl)) pgs_nil)))))
  (pss_cons (ps_setLc (i := 7) (own := [("one", 8)]) (g := gName 8) rfl sc_Reader_add_statements.nd rfl rfl (sw_true rfl rfl rfl (by decide +kernel)) (pi_list (pe_fld (pv 0) rfl)) (blkOk_by (N := ["self", "line", "word", "statements", "many", "lists", "repeats", "around", "one"]) (sc := defScope s_Reader_add_statements) (by decide +kernel)) (fun _ _ _ _ _ => pg_name (i := 8) sc_Reader_add_statements.nd rfl (Or.inl rfl)) (fun _ _ _ _ _ => pts_one (pt_cmpR op_eq ((show PE _ _ (tFld K _ _) from pe_fld (pv 8) rfl)) (pe_str) (nomark _))) (fun _ _ _ _ _ => pv 8))
  (pss_cons (ps_fldaug (pv 0) (pv 4) ip_add)
  (C8.pss_cut (ps_if (pt_not (pt_val (pe_call (ok_are_within_limits T) (hr.mono (by omega)) rfl T.g_are_within_limits T.F_are_within_limits.kp T.b_are_within_limits .nil pass0 (pa_cons (pe_fld (pv 0) rfl) (pa_cons (pe_op op_add (pe_callB call_len_seq (by rfl) T.n_len (by decide +kernel) (pa_cons (pe_fld (pv 0) rfl) pa_nil)) (pv 5)) (pa_cons (pe_op op_add (pe_callB call_len_seq (by rfl) T.n_len (by decide +kernel) (pa_cons (pv 7) pa_nil)) (pv 6)) pa_nil))))))
  (pss_one (ps_dead))
  (pss_nil))
  (pss_cons (ps_expr (pe_bm PySem.F.plainAttrs_list PySem.F.slot_list_extend PySem.F.type_list_extend mt_extend (pe_fld (pe_ix ix_list (pe_fld (pv 0) rfl) (pe_un un_neg pe_int) (fun _ _ => rfl)) rfl) (pa_cons (pv 3) pa_nil)))
  (pss_one (ps_if (pt_cmpR op_in_seq (pv 2) (pe_tup (pa_cons (pe_str) (pa_cons (pe_str) (pa_cons (pe_str) (pa_cons (pe_str) pa_nil))))) (by rfl))
  (pss_one (ps_expr (pe_meth (pv 0) T.cl_Reader T.m_Reader_begin_list (ok_Reader_begin_list T) (hr.mono (by omega)) T.b_Reader_begin_list .nil pass0 (pa_cons (pe_ix ix_list (pv 3) (pe_int) (fun _ _ => rfl)) pa_nil))))
  (pss_nil))))))))), ?_⟩
  refine asg_un (go_call (ta_cons (te_var rfl) (ta_cons (te_var rfl) ta_nil)) ⟨p, X, pl, mo, wd, sw, ds, nw, X.ts.length, rfl, L, xib, fm, fun l s wl H1 k1 L1 hl sa1 hwl fr nlw => ?_⟩)
  refine set_sl (σ' := [some (.ref r.self), some (.ref p.self), some (.str wd), some (.ref l), none, none, none, none, none]) rfl ?_
  refine sq_go (drop_un (meth_go (te_var rfl) L1.ob rfl ta_nil ⟨p, X.ts, X.cs, X.vs, X.ts.length, mo, rfl, L1, rfl, ?_⟩))
  obtain ⟨sa, sxs, es, sq, rds, hw0, ndw⟩ := id sa1
  subst es
  have lds : sxs.length = ds.length := rp_row_len rds
  refine sq_go ?_
  refine go_call (ta1 (te_var rfl)) ⟨l, sa, sxs, wl, sw, rfl, SqL.of hl, Same.sqT kl_sub sq, by rw [lds, hwl]; exact fm.sh, hw0, fun u H2 s2 e2 => ?_⟩
  refine ⟨u, _, rfl, SqT.of e2, rfl, _, _, rfl, _, _, rfl, _, _, rfl, rfl, ?_⟩
  dsimp only
  have nC : ∀ a ∈ ownR r, a ∉ CL A p := fun a ha z => by
    simp only [CL, List.mem_cons, List.not_mem_nil, or_false] at z
    rcases z with z | z
    · exact R.tns a ha z
    · exact nps (z ▸ ha)
  obtain ⟨tps, tt1, _⟩ := R.tb
  have nprC : pr ∉ CL A p := fun z => by
    simp only [CL, List.mem_cons, List.not_mem_nil, or_false] at z
    rcases z with z | z
    · rw [z, tt1] at hx0; cases hx0
    · rw [z, L.ob] at hx0; cases hx0
  have npo := ol.nOwn R
  have k2 : Kept (CL A p) H H2 := k1.trans (Kept.of s2)
  have R2 := (R.kept k1 nC L1.tb).same s2
  have olk : ∀ {po pr : Addr} {hd : Str} {ib : Bool}, OlAt A H po pr hd ib → OlAt A H2 po pr hd ib := fun h => by
    obtain ⟨dx, e⟩ := id h
    exact ⟨dx, k2 _ _ (h.nCL L) e⟩
  have hops2 : ∀ v ∈ l0 ++ [.ref po], ∃ po pr hd ib, v = .ref po ∧ OlAt A H2 po pr hd ib ∧ hd ≠ "repeat" := fun v hv => by
    obtain ⟨po, pr, hd, ib, e1, e2, e3⟩ := hops v hv
    exact ⟨po, pr, hd, ib, e1, olk e2, e3⟩
  have ol2 := olk ol
  have x2 := k2 _ _ nprC hx0
  have hl2 := s2 _ _ hl
  have A2 : Al H H2 := (L1.al k1).trans (Al.of s2)
  have hw2 : ∀ w ∈ wl, H2 w = some (.lst []) := fun w hw => s2 _ _ (hw0 w hw)
  have sa2 : StAt K (CL A p ++ wl) H2 sw ds wl (.ref sa) := sa1.mono (Kept.of s2).kl hw2
  refine asg_un (lc_go (ti_list (te_fld (te_var rfl) R2.ob T.cl_Reader T.no_Reader_lists rfl) (SqL.of R2.lis)) (walk_list (K := K) (a := r.pls) (xs := l0 ++ [.ref po])) (fun L i G => H2 L = none ∧ G = upd H2 L (.lst [])) (fun L hL => ⟨hL, rfl⟩) (fun L i G _ h => by rw [h.2]; exact SqL.of (Same.upd h.1 _ _ R2.lis)) ?_ fun q H3 hq h3 => ?_)
  · rintro L i x G G' hL hi ⟨_, rfl⟩ ⟨rfl, ex⟩
    obtain ⟨po1, pr1, hd1, ib1, rfl, ⟨dx1, o1⟩, n1⟩ := hops2 x (List.mem_of_getElem? ex)
    refine ⟨rfl, ?_⟩
    exact Tt.go (tt_test (te_eqF (x := .str hd1) (te_fld (te_var rfl) (Same.upd hL _ _ o1) T.cl_OpenList T.no_OpenList_head rfl) te_c rfl (fun z => n1 (V.str.inj z)))) ((if_neg Bool.false_ne_true).mpr ⟨hL, rfl⟩)
  obtain ⟨_, rfl⟩ := h3
  have s3 : Same H2 (upd H2 q (.lst [])) := Same.upd hq
  have e3 : upd H2 q (.lst []) q = some (.lst []) := upd_same
  have R3 := R2.same s3
  have ol3 : OlAt A (upd H2 q (.lst [])) po pr hd ib := by
    obtain ⟨dx, e⟩ := ol2
    exact ⟨dx, s3 _ _ e⟩
  have x3 := s3 _ _ x2
  have hl3 := s3 _ _ hl2
  have A3 : Al H (upd H2 q (.lst [])) := A2.upd
  have hw3 : ∀ w ∈ wl, upd H2 q (.lst []) w = some (.lst []) := fun w hw => s3 _ _ (hw2 w hw)
  have sa3 : StAt K (CL A p ++ wl) (upd H2 q (.lst [])) sw ds wl (.ref sa) := sa2.mono (Kept.of s3).kl hw3
  have k3 : Kept (CL A p) H (upd H2 q (.lst [])) := k2.trans (Kept.of s3)
  have nqr : q ∉ ownR r := R2.nOwn hq
  generalize upd H2 q (.lst []) = H3 at s3 e3 R3 ol3 x3 hl3 A3 hw3 sa3 k3 ⊢
  refine set_sl (σ' := [some (.ref r.self), some (.ref p.self), some (.str wd), some (.ref l), some (.int 1), some (.int (anyI wl)), some (.int (repI sw)), some (.ref q), none]) rfl ?_
  refine sq_go ?_
  refine ⟨_, rfl, r.self, _, r.dx, _, _, rfl, R3.ob, T.cl_Reader, T.no_Reader_statements, rfl, _, rfl, _, _, rfl, rfl, r.dx, _, R3.ob, (by show 7 < 1000; decide), ?_⟩
  have R4 : RdAt A (upd H3 r.self (.ins A.a_Reader r.dx (fldR r nm (st + 1)))) r nm (st + 1) cl dk th vk (l0 ++ [.ref po]) := R3.setN _ _
  have ns : ∀ {b : Addr}, b ∉ ownR r → b ≠ r.self := fun h z => h (by rw [z]; simp [ownR])
  have ol4 : OlAt A (upd H3 r.self (.ins A.a_Reader r.dx (fldR r nm (st + 1)))) po pr hd ib := by
    obtain ⟨dx, e⟩ := ol3
    exact ⟨dx, upd_off e (ns npo)⟩
  have x4 : upd H3 r.self (.ins A.a_Reader r.dx (fldR r nm (st + 1))) pr = some (.lst xs) := upd_off x3 (ns npr)
  have hl4 : upd H3 r.self (.ins A.a_Reader r.dx (fldR r nm (st + 1))) l = some (.lst [.ref sa]) := upd_off hl3 (R3.ns hl3 (by intro _ _ _ z; cases z))
  have q4 : upd H3 r.self (.ins A.a_Reader r.dx (fldR r nm (st + 1))) q = some (.lst []) := upd_off e3 (ns nqr)
  have A4 : Al H (upd H3 r.self (.ins A.a_Reader r.dx (fldR r nm (st + 1)))) := A3.upd
  have e5 : putF "statements" (V.int (st + 1)) (fldR r nm st) = fldR r nm (st + 1) := rfl
  dsimp only
  rw [e5]
  -- the statement does not hang on what is written
  have sa3' : StAt K (pr :: (ownR r ++ (CL A p ++ wl))) H3 sw ds wl (.ref sa) := sa3.thin (B := pr :: ownR r) fm.noL fun a ha o h => by
    rcases List.mem_cons.mp ha with rfl | ha
    · rw [x3] at h; cases h; exact ⟨(by intro _ z; cases z), (by intro _ _ z; cases z)⟩
    · exact R3.noTup a ha o h
  have nwr : ∀ w ∈ wl, w ∉ ownR r := fun w hw => R.nOwn (fr w (List.mem_cons_of_mem _ hw))
  have nwp : ∀ w ∈ wl, w ≠ pr := fun w hw z => by have := fr w (List.mem_cons_of_mem _ hw); rw [z, hx0] at this; cases this
  have stay : ∀ {G : Hp}, Kept (pr :: (ownR r ++ CL A p)) H3 G → StAt K (pr :: (ownR r ++ (CL A p ++ wl))) G sw ds wl (.ref sa) := fun {G} kk => sa3'.mono (fun b o e => by
    obtain ⟨nb, e⟩ := kl_inv e
    exact kl_at (kk b o (fun z => nb (by
      rcases List.mem_cons.mp z with z | z
      · rw [z]; exact List.mem_cons_self
      · rcases List.mem_append.mp z with z | z
        · exact List.mem_cons_of_mem _ (List.mem_append_left _ z)
        · exact List.mem_cons_of_mem _ (List.mem_append_right _ (List.mem_append_left _ z)))) e) nb) fun w hw => kk _ _ (fun z => by
      rcases List.mem_cons.mp z with z | z
      · exact nwp w hw z
      · rcases List.mem_append.mp z with z | z
        · exact nwr w hw z
        · exact L.nCL (X := ⟨X.ts, X.cs, X.vs, true⟩) (fr w (List.mem_cons_of_mem _ hw)) z) (hw3 w hw)
  have k4 : Kept (pr :: (ownR r ++ CL A p)) H3 (upd H3 r.self (.ins A.a_Reader r.dx (fldR r nm (st + 1)))) := Kept.refl.upd (by simp [ownR])
  have KH : ∀ {G : Hp}, Kept (pr :: (ownR r ++ CL A p)) H3 G → Kept (pr :: (ownR r ++ CL A p)) H G := fun kk => (k3.more fun a h => List.mem_cons_of_mem _ (List.mem_append_right _ h)).trans kk
  generalize upd H3 r.self (.ins A.a_Reader r.dx (fldR r nm (st + 1))) = H4 at R4 ol4 x4 hl4 q4 A4 k4 ⊢
  refine cut_sq (if_seq (tt_not (tt_b (te_call (ta_cons (te_fld (te_var rfl) R4.ob T.cl_Reader T.no_Reader_statements rfl) (ta_cons (te_i0 (te_len (te_fld (te_var rfl) R4.ob T.cl_Reader T.no_Reader_lists rfl) (.inl (SqL.of R4.lis))) (te_var rfl)) (ta_cons (te_i0 (te_len (te_var rfl) (.inl (SqL.of q4))) (te_var rfl)) ta_nil))) fun Q q => ⟨_, _, _, rfl, q⟩))) (fun h => ?_) fun _ => ?_)
  · have h1 : (((l0 ++ [V.ref po]).length : Nat) : Int) + anyI wl ≤ 6 := by
      have : anyI wl ≤ 1 := by unfold anyI; split <;> decide
      rw [List.length_append]
      show ((l0.length + 1 : Nat) : Int) + anyI wl ≤ 6
      omega
    rw [decide_eq_true l80, decide_eq_true h1, fm.rep] at h
    simp at h
  obtain ⟨dxo, ho4⟩ := id ol4
  refine sq_go (drop_un (bm_un (Te.go (te_fld (te_last (te_fld (te_var rfl) R4.ob T.cl_Reader T.no_Reader_lists rfl) (te_neg te_c) (SqL.of R4.lis)) ho4 T.cl_OpenList T.no_OpenList_rows rfl) ⟨.inl ⟨rfl, _, SqL.of x4⟩, cons_un (Te.go (te_var rfl) (nil_un ⟨pr, l, xs, [.ref sa], rfl, rfl, x4, hl4, by rw [sizeLine_eq]; show xs.length + 1 ≤ _; omega, ?_⟩))⟩)))
  dsimp only
  have nbpr : ∀ {b : Addr}, b ∈ ownR r → b ≠ pr := fun h z => npr (z ▸ h)
  have R5 : RdAt A (upd H4 pr (.lst (xs ++ [.ref sa]))) r nm (st + 1) cl dk th vk (l0 ++ [.ref po]) := R4.kept (C := [pr]) (Kept.refl.upd (by simp)) (fun a ha z => nbpr ha (List.mem_singleton.mp z)) (TabG.off R4.tb (fun z => by
    obtain ⟨ps, t, _⟩ := R4.tb
    rw [z, x4] at t
    cases t))
  have ol5 : OlAt A (upd H4 pr (.lst (xs ++ [.ref sa]))) po pr hd ib := ⟨dxo, upd_off ho4 (fun z => by rw [z, x4] at ho4; cases ho4)⟩
  have x5 : upd H4 pr (.lst (xs ++ [.ref sa])) pr = some (.lst (xs ++ [.ref sa])) := upd_same
  have k5 : Kept (pr :: (ownR r ++ CL A p)) H3 (upd H4 pr (.lst (xs ++ [.ref sa]))) := k4.upd List.mem_cons_self
  have A5 : Al H (upd H4 pr (.lst (xs ++ [.ref sa]))) := A4.upd
  have hl5 : nw ≠ 0 → upd H4 pr (.lst (xs ++ [.ref sa])) l = some (.lst [.ref sa]) := fun _ => upd_off hl4 (fun z => by have := fr l List.mem_cons_self; rw [z, hx0] at this; cases this)
  generalize upd H4 pr (.lst (xs ++ [.ref sa])) = H5 at R5 ol5 x5 k5 A5 hl5 ⊢
  refine iff_un (tst_un ?_)
  refine op_un ?_
  refine Te.go (te_var (v := .str wd) rfl) (tup_un ((ta_cons te_c (ta_cons te_c (ta_cons te_c (ta_cons te_c ta_nil)))) _ ⟨by show 4 ≤ sizeLine; decide, fun u2 hu2 => ?_⟩))
  have s6 : Same H5 (upd H5 u2 (.tup [.str "if", .str "repeat", .str "atomic", .str "choose"])) := Same.upd hu2
  have R6 := R5.same s6
  have A6 : Al H (upd H5 u2 (.tup [.str "if", .str "repeat", .str "atomic", .str "choose"])) := A5.upd
  have k6 := k5.trans (Kept.of (C := pr :: (ownR r ++ CL A p)) s6)
  have ol6 : OlAt A (upd H5 u2 (.tup [.str "if", .str "repeat", .str "atomic", .str "choose"])) po pr hd ib := by
    obtain ⟨dx, e⟩ := ol5
    exact ⟨dx, s6 _ _ e⟩
  have x6 := s6 _ _ x5
  have e6 : upd H5 u2 (.tup [.str "if", .str "repeat", .str "atomic", .str "choose"]) u2 = some (.tup [.str "if", .str "repeat", .str "atomic", .str "choose"]) := upd_same
  have hl6 : nw ≠ 0 → upd H5 u2 (.tup [.str "if", .str "repeat", .str "atomic", .str "choose"]) l = some (.lst [.ref sa]) := fun h => s6 _ _ (hl5 h)
  show rIn _ _ _ _ (upd H5 u2 (.tup [.str "if", .str "repeat", .str "atomic", .str "choose"])) _
  generalize upd H5 u2 (.tup [.str "if", .str "repeat", .str "atomic", .str "choose"]) = H6 at R6 A6 k6 ol6 x6 e6 hl6 ⊢
  cases fm with
  | later xib2 le =>
    refine ⟨u2, _, rfl, .inr (SqT.of e6), rfl, rfl, _, rfl, (if_neg (by decide +kernel)).mpr ?_⟩
    exact kQ (.ref sa) wl _ (KH k6) A6 x6 (stay k6) hwl (fun w hw => fr w (List.mem_cons_of_mem _ hw)) (.inl ⟨rfl, R6⟩)
  | atomic xib2 hwi =>
    refine ⟨u2, _, rfl, .inr (SqT.of e6), rfl, rfl, _, rfl, (if_pos (by decide +kernel)).mpr ?_⟩
    obtain ⟨w1, w2, rfl⟩ : ∃ w1 w2, wl = [w1, w2] := by
      match wl, hwl with
      | [w1, w2], _ => exact ⟨w1, w2, rfl⟩
    obtain ⟨a6, vs6, ea6, sq6, rd6, _, _⟩ := stay k6
    cases ea6
    have ev6 : vs6 = [.non] := by
      obtain ⟨x6, xs6, rfl, h1, h2⟩ := rd6
      have h1 : [x6] = [V.non] := h1
      have h2 : xs6 = [] := h2
      rw [h2, (List.cons.inj h1).1]
    subst ev6
    refine drop_un (meth_go (te_var rfl) R6.ob rfl (ta1 (te_ixL (te_var rfl) te_c (SqL.of (hl6 (by decide))) (v := .ref sa) (atI_nat (j := 0) rfl))) ⟨r, nm, st + 1, cl, dk, th, vk, l0, po, pr, hd, ib, sa, w1, w2, rfl, R6, ol6, Same.sqT kl_sub sq6, by omega, fun po' H7 k7 A7 hpo R7 ol7 => ?_⟩)
    have k7' : Kept (pr :: (ownR r ++ CL A p)) H3 H7 := k6.trans (k7.more fun a h => List.mem_cons_of_mem _ (List.mem_append_left _ h))
    exact kQ (.ref sa) [w1, w2] _ (KH k7') (A6.trans A7) (k7 _ _ npr x6) (stay k7') rfl (fun w hw => fr w (List.mem_cons_of_mem _ hw)) (.inr ⟨po', w1, w2, rfl, A6 _ hpo, R7, ol7⟩)
end
end K01

namespace K01
open PySem L2 YF YG
open C8 (tCut)
/-! ### a line of a program -/
def Gone (A : Adr) (C : List Addr) (H H' : Hp) : Prop := Kept (A.t_is_name :: C) H H'
/-- a list that is open -/
structure OpB (A : Adr) (H : Hp) (r : PlR) (po pr : Addr) (hd : Str) (ib : Bool) (xs : List V) : Prop where
  ol : OlAt A H po pr hd ib
  rows : H pr = some (.lst xs)
  n1 : pr ∉ ownR r
theorem OpB.same {A : Adr} {H H' : Hp} {r : PlR} {po pr : Addr} {hd : Str} {ib : Bool} {xs : List V} (h : OpB A H r po pr hd ib xs) (s : Same H H') : OpB A H' r po pr hd ib xs :=
  ⟨let ⟨dx, e⟩ := h.ol; ⟨dx, s _ _ e⟩, s _ _ h.rows, h.n1⟩
theorem OpB.kept {A : Adr} {H H' : Hp} {r : PlR} {po pr : Addr} {hd : Str} {ib : Bool} {xs : List V} {C : List Addr} (h : OpB A H r po pr hd ib xs) (k : Kept C H H') (c1 : po ∉ C) (c2 : pr ∉ C) : OpB A H' r po pr hd ib xs :=
  ⟨let ⟨dx, e⟩ := h.ol; ⟨dx, k _ _ c1 e⟩, k _ _ c2 h.rows, h.n1⟩
theorem StAt.less {K : PySem.W.Frag} {C C' : List Addr} {H : Hp} {sw : Str} {ds : List D} {wl : List Addr} {s : V} (h : StAt K C H sw ds wl s) (sub : ∀ a ∈ C', a ∈ C) : StAt K C' H sw ds wl s := by
  have e : Same (kl C H) (kl C' H) := fun b o e => by
    obtain ⟨n, e⟩ := kl_inv e
    exact kl_at e fun z => n (sub b z)
  obtain ⟨a, vs, e1, h1, h2, h3, h4⟩ := h
  exact ⟨a, vs, e1, Same.sqT e h1, Rp.mono e h2, h3, h4⟩
def C0 (A : Adr) (H : Hp) (Q : VK) (r : PlR) (nm : V) (st : Int) (cl : List V) (dk : Kv) (th : List V) (vk : Kv) (ts : List Tk) (cs : List Str) (ls : List V) : Prop := ∃ (size first : Int) (ss : List Int), ls = [] ∧ th = [] ∧ tx ts 0 = "cell" ∧ NameOk (tx ts 1) ∧ tx ts 1 ∉ cs ∧ CellF ts 2 size first ts.length ∧ Paired (CelAt H) cl ss ∧ 1 ≤ size ∧ ss.sum + size ≤ 24 ∧ cl.length ≤ 100 ∧
  ∀ (u t : Addr) H', Gone A (ownR r) H H' → H u = none → H' u = some (CelO (tx ts 1) size first) → u ∉ ownR r → RdAt A H' r nm st (cl ++ [.ref u]) (dk ++ [(.inr (tx ts 1), .ref t)]) th vk [] → Q .non H'
def C1 (A : Adr) (H : Hp) (Q : VK) (r : PlR) (cl : List V) (dk : Kv) (th : List V) (ts : List Tk) (ls : List V) : Prop := ls = [] ∧ th = [] ∧ tx ts 0 = "thread" ∧ NameOk (tx ts 1) ∧ ts.length = 2 ∧
  ∀ (r' : PlR) (po pr : Addr) (H' : Hp), r'.self = r.self → (∀ a ∈ ownR r', a ∈ ownR r ∨ H a = none) → H po = none → H pr = none → Gone A (ownR r) H H' → RdAt A H' r' (.str (tx ts 1)) 0 cl dk [] [] [.ref po] → OpB A H' r' po pr "thread" false [] → Q .non H'
def C2 (A : Adr) (H : Hp) (Q : VK) (r : PlR) (nm : V) (st : Int) (cl : List V) (dk : Kv) (th : List V) (vk : Kv) (ts : List Tk) (cs vs : List Str) (ls : List V) : Prop := ∃ (po pr : Addr) (m : Int), ls = [.ref po] ∧ OpB A H r po pr "thread" false [] ∧ tx ts 0 = "local" ∧ NameOk (tx ts 1) ∧ tx ts 1 ∉ cs ++ vs ∧ tx ts 2 = "=" ∧ IntAt ts 3 m ts.length ∧ vk.length < 10 ∧
  ∀ H', Gone A (ownR r) H H' → RdAt A H' r nm st cl dk th (vk ++ [(.inr (tx ts 1), .int m)]) [.ref po] → OpB A H' r po pr "thread" false [] → Q .non H'
def C3 (K : PySem.W.Frag) (A : Adr) (n : Nat) (H : Hp) (Q : VK) (r : PlR) (nm : V) (st : Int) (cl : List V) (dk : Kv) (th : List V) (vk : Kv) (ts : List Tk) (cs vs : List Str) (ls : List V) : Prop := ∃ (l0 : List V) (po pr : Addr) (hd : Str) (ib : Bool) (xs : List V) (sw : Str) (ds : List D) (nw : Nat), ls = l0 ++ [.ref po] ∧ OpB A H r po pr hd ib xs ∧
  (∀ v ∈ l0 ++ [.ref po], ∃ po pr hd ib, v = .ref po ∧ OlAt A H po pr hd ib ∧ hd ≠ "repeat") ∧ Form ⟨ts, cs, vs, ib⟩ n (tx ts 0) 0 1 sw ds nw ts.length ∧ st + 1 ≤ 80 ∧ l0.length ≤ 4 ∧ xs.length ≤ 100 ∧
  ∀ (s : V) (wl : List Addr) (H' : Hp), Gone A (pr :: ownR r) H H' → H' pr = some (.lst (xs ++ [s])) → StAt K (A.t_is_name :: pr :: (ownR r ++ wl)) H' sw ds wl s → wl.length = nw → (∀ w ∈ wl, H w = none) →
    ((nw = 0 ∧ RdAt A H' r nm (st + 1) cl dk th vk (l0 ++ [.ref po])) ∨ ∃ po' w1 w2, wl = [w1, w2] ∧ H po' = none ∧ RdAt A H' r nm (st + 1) cl dk th vk (l0 ++ [.ref po] ++ [.ref po']) ∧ OlAt A H' po' w1 "block" true) → Q .non H'
def C4 (A : Adr) (H : Hp) (Q : VK) (r : PlR) (nm : V) (st : Int) (cl : List V) (dk : Kv) (th : List V) (vk : Kv) (ts : List Tk) (ls : List V) : Prop := ∃ (l0 : List V) (po pr : Addr) (hd : Str) (ib : Bool) (xs : List V), ls = l0 ++ [.ref po] ∧ OpB A H r po pr hd ib xs ∧ tx ts 0 = "end" ∧ ts.length = 1 ∧ th.length ≤ 100 ∧
  ((hd ≠ "thread" ∧ ∀ H', Gone A (ownR r) H H' → RdAt A H' r nm st cl dk th vk l0 → Q .non H') ∨
  (hd = "thread" ∧ l0 = [] ∧ ∀ (t q1 q2 dxt : Addr) (ps : List V) (H' : Hp), Gone A (ownR r) H H' → RdAt A H' r nm st cl dk (th ++ [.ref t]) vk [] → H t = none → H q1 = none → H q2 = none → H' t = some (.ins A.a_Thread dxt [("name", nm), ("variables", .ref q1), ("body", .ref q2)]) → H' q1 = some (.lst ps) → Paired (PairAt H') vk ps → H' q2 = some (.lst xs) → Q .non H'))
def spRL (K : PySem.W.Frag) (A : Adr) (n : Nat) : Sp := fun ws H Q _ => ∃ (r : PlR) (nm : V) (st : Int) (cl : List V) (dk : Kv) (th : List V) (vk : Kv) (ls : List V) (z : Str) (num : Int) (ts : List Tk) (cs' vs : List Str), ws = [.ref r.self, .str z, .int num] ∧ RdAt A H r nm st cl dk th vk ls ∧ z.length ≤ 640 ∧ Scan 0 (cs z) ts none ∧ ts.length ≤ 1000 ∧
  dk.map (·.1) = cs'.map Sum.inr ∧ vk.map (·.1) = vs.map Sum.inr ∧ dk.length ≤ 100 ∧
  (C0 A H Q r nm st cl dk th vk ts cs' ls ∨ C1 A H Q r cl dk th ts ls ∨ C2 A H Q r nm st cl dk th vk ts cs' vs ls ∨ C3 K A n H Q r nm st cl dk th vk ts cs' vs ls ∨ C4 A H Q r nm st cl dk th vk ts ls)
section
variable {P : Program} {w : World} {K : PySem.W.Frag} {mg : Str → Option Value} {base : Heap} {A : Adr} {n : Nat}
theorem ok_Reader_read_line (TB : GxR.TabB base mg A.c_is_name A.t_is_name) (FT : FmT K w A) (T : Txt K mg A) (hx : FnOk P w K mg base CX0 (11 * n + 6) A.a_read_expression A.d_read_expression ["line"] (spRd K A fun X => (LE X n).ex)) : FnOk P w K mg base CX0 (11 * n + 10) A.a_Reader_read_line A.d_Reader_read_line ["self", "text", "number"] (spRL K A n) := by
  refine T.F_Reader_read_line.ok (k := 11 * n + 9) sc_Reader_read_line (fun ws H Q E ⟨_, _, _, _, _, _, _, _, _, _, _, _, _, e, _⟩ => by rw [e]; rfl) (fun cdv A' outer s H ws Q E hr h' => ?_)
  obtain ⟨r, nm, st, cl, dk, th, vk, ls, z, num, ts, cs', vs, rfl, R, zl, sc, tl, edk, evk, ld, hc⟩ := h'
  refine ⟨_, pss_cons (ps_set (i := 3) sc_Reader_read_line.nd rfl (Or.inl rfl) (pe_and (pe_cmpR op_gt (pe_callB call_len_seq (by rfl) T.n_len (by decide +kernel) (pa_cons (pe_fld (pv 0) rfl) pa_nil)) (pe_int) (nomark _)) (pe_one (pe_fld (pe_ix ix_list (pe_fld (pv 0) rfl) (pe_un un_neg pe_int) (fun _ _ => rfl)) rfl))))
  (pss_cons (ps_set (i := 4) sc_Reader_read_line.nd rfl (Or.inl rfl) (pe_make T.mk_Line (ok_Line___init__ T) (hr.mono (by omega)) rfl T.g_Line T.b_Line___init__ .nil pass0 (pa_cons (pv 1) (pa_cons (pv 2) (pa_cons (pe_fld (pv 0) rfl) (pa_cons (pe_fld (pv 0) rfl) (pa_cons (pv 3) pa_nil)))))))
  (pss_cons (ps_if (pt_val (pe_meth0 (pv 4) T.cl_Line T.m_Line_is_over (ok_Line_is_over T) (hr.mono (by omega)) T.b_Line_is_over .nil pass0))
  (pss_one (ps_retN))
  (pss_nil))
  (pss_cons (ps_set (i := 5) sc_Reader_read_line.nd rfl (Or.inl rfl) (pe_meth0 (pv 4) T.cl_Line T.m_Line_text (ok_Line_text T) (hr.mono (by omega)) (bd_Line_text_0 T).choose_spec.2 (bd_Line_text_0 T).choose_spec.1 pass0))
  (C8.pss_cut (ps_if (pt_not (pt_val (pe_meth (pv 0) T.cl_Reader T.m_Reader_may_begin (ok_Reader_may_begin FT T) (hr.mono (by omega)) T.b_Reader_may_begin .nil pass0 (pa_cons (pv 5) pa_nil))))
  (pss_one (ps_dead))
  (pss_nil))
  (pss_cons (ps_expr (pe_meth0 (pv 4) T.cl_Line T.m_Line_skip (ok_Line_skip T) (hr.mono (by omega)) T.b_Line_skip .nil pass0))
  (pss_one (ps_if (pt_cmpR op_eq (pv 5) (pe_str) (nomark _))
  (pss_one (ps_expr (pe_meth (pv 0) T.cl_Reader T.m_Reader_begin_thread (ok_Reader_begin_thread TB T) (hr.mono (by omega)) T.b_Reader_begin_thread .nil pass0 (pa_cons (pv 4) pa_nil))))
  (pss_one (ps_if (pt_not (pt_truth (pe_fld (pv 0) rfl) (by intro _; rfl)))
  (pss_one (ps_expr (pe_meth (pv 0) T.cl_Reader T.m_Reader_declare_cell (ok_Reader_declare_cell TB T) (hr.mono (by omega)) T.b_Reader_declare_cell .nil pass0 (pa_cons (pv 4) (pa_cons (pv 5) pa_nil)))))
  (pss_one (ps_if (pt_cmpR op_eq (pv 5) (pe_str) (nomark _))
  (pss_one (ps_expr (pe_meth (pv 0) T.cl_Reader T.m_Reader_declare_local (ok_Reader_declare_local TB T) (hr.mono (by omega)) T.b_Reader_declare_local .nil pass0 (pa_cons (pv 4) pa_nil))))
  (pss_one (ps_if (pt_cmpR op_eq (pv 5) (pe_str) (nomark _))
  (pss_one (ps_expr (pe_meth (pv 0) T.cl_Reader T.m_Reader_end_list (ok_Reader_end_list T) (hr.mono (by omega)) T.b_Reader_end_list .nil pass0 (pa_cons (pv 4) pa_nil))))
  (pss_one (ps_if (pt_cmpR op_eq (pv 5) (pe_fld (pe_ix ix_list (pe_fld (pv 0) rfl) (pe_un un_neg pe_int) (fun _ _ => rfl)) rfl) (nomark _))
  (pss_one (ps_dead))
  (pss_one (ps_expr (pe_meth (pv 0) T.cl_Reader T.m_Reader_add_statements (ok_Reader_add_statements FT T hx) (hr.mono (by omega)) T.b_Reader_add_statements .nil pass0 (pa_cons (pv 4) (pa_cons (pv 5) pa_nil)))))))))))))))))))), ?_⟩
  -- is a block open?
  obtain ⟨lib, hib⟩ : ∃ lib : Bool, (ls = [] ∧ lib = false) ∨ ∃ l0 po pr hd xs, ls = l0 ++ [.ref po] ∧ OpB A H r po pr hd lib xs := by
    rcases hc with ⟨_, _, _, h, _⟩ | h | ⟨po, pr, _, h1, h2, _⟩ | ⟨l0, po, pr, hd, ib, xs, _, _, _, h1, h2, _⟩ | ⟨l0, po, pr, hd, ib, xs, h1, h2, _⟩
    · exact ⟨false, .inl ⟨h, rfl⟩⟩
    · exact ⟨false, .inl ⟨h.1, rfl⟩⟩
    · exact ⟨false, .inr ⟨[], _, _, _, _, h1, h2⟩⟩
    · exact ⟨ib, .inr ⟨_, _, _, _, _, h1, h2⟩⟩
    · exact ⟨ib, .inr ⟨_, _, _, _, _, h1, h2⟩⟩
  have tib : Te (tAndV (tOp (rI0 fun i j => V.bl (decide (j < i))) (tCB (fun xs H Q => ∃ p ys, xs = [V.ref p] ∧ (SqL K H p ys ∨ SqT K H p ys) ∧ Q (V.int ys.length) H) (tCons (tFld K (tVar 0) "lists") tNil)) (tC (.int 0))) (tFld K (tOp (rIxL K) (tFld K (tVar 0) "lists") (tUn (fun x H Q => ∃ i, x = .int i ∧ Q (.int (-i)) H) (tC (.int 1)))) "in_block")) (L2.start ["self", "text", "number", "in_block", "line", "word"] [.ref r.self, .str z, .int num]) H (.bl lib) := by
    rcases hib with ⟨rfl, rfl⟩ | ⟨l0, po, pr, hd, xs, rfl, ⟨dxo, ho⟩, _⟩
    · have t := te_andV (te_i0 (g := fun i j => V.bl (decide (j < i))) (te_len (te_fld (te_var (σ := L2.start ["self", "text", "number", "in_block", "line", "word"] [.ref r.self, .str z, .int num]) (i := 0) rfl) R.ob T.cl_Reader T.no_Reader_lists rfl) (.inl (SqL.of (K := K) R.lis))) (te_c (v := .int 0))) (tb := tFld K (tOp (rIxL K) (tFld K (tVar 0) "lists") (tUn (fun x H Q => ∃ i, x = .int i ∧ Q (.int (-i)) H) (tC (.int 1)))) "in_block") (b := false) (fun h => by simp at h)
      simpa using t
    · have t := te_andV (te_i0 (g := fun i j => V.bl (decide (j < i))) (te_len (te_fld (te_var (σ := L2.start ["self", "text", "number", "in_block", "line", "word"] [.ref r.self, .str z, .int num]) (i := 0) rfl) R.ob T.cl_Reader T.no_Reader_lists rfl) (.inl (SqL.of (K := K) R.lis))) (te_c (v := .int 0))) (fun _ => te_fld (te_last (te_fld (te_var (i := 0) rfl) R.ob T.cl_Reader T.no_Reader_lists rfl) (te_neg (te_c (v := .int 1))) (SqL.of (K := K) R.lis)) ho T.cl_OpenList T.no_OpenList_in_block rfl)
      rw [decide_eq_true (by rw [List.length_append]; show (0 : Int) < ((l0.length + 1 : Nat) : Int); omega), Bool.true_and] at t
      exact t
  refine asg_te tib ?_
  refine set_sl (σ' := [some (.ref r.self), some (.str z), some (.int num), some (.bl lib), none, none]) rfl ?_
  refine asg_un (go_make (ta_cons (te_var rfl) (ta_cons (te_var rfl) (ta_cons (te_fld (te_var rfl) R.ob T.cl_Reader T.no_Reader_declared rfl) (ta_cons (te_fld (te_var rfl) R.ob T.cl_Reader T.no_Reader_variables rfl) (ta_cons (te_var rfl) ta_nil))))) fun x dx hx0 hdx ndx => ?_)
  have s0 : Same H (upd (upd H dx (.own x)) x (.ins A.a_Line dx [])) := (Same.upd hdx).trans (Same.upd (by rw [upd_ne ndx.symm]; exact hx0))
  have R0 := R.same s0
  refine ⟨x, dx, r.pdc, r.pvr, z, num, lib, ts, cs', vs, rfl, upd_same, zl, sc, tl, ⟨dk, R0.decl, edk⟩, ⟨vk, R0.var, evk⟩, R0.tb, fun p H1 px k1 L1 pib => ⟨rfl, ?_⟩⟩
  have s1 : Same H H1 := fun b o e => k1 b o (fun z => by rw [z, hx0] at e; cases e) (s0 b o e)
  have R1 := R.same s1
  have pf : H p.self = none := by rw [px]; exact hx0
  have nps : p.self ∉ ownR r := R.nOwn pf
  refine set_sl (σ' := [some (.ref r.self), some (.str z), some (.int num), some (.bl lib), some (.ref p.self), none]) (by rw [px]; rfl) ?_
  have txe : tx ts 0 ≠ "" → 0 < ts.length := fun h => by
    cases ts with
    | nil => exact absurd rfl h
    | cons _ _ => simp
  have sw0 : ∀ {ib : Bool} {z : Str}, Stand ib z → z ≠ "" ∧ z ≠ "thread" ∧ z ≠ "local" ∧ z ≠ "end" := fun h => by
    rcases h with ⟨_, h⟩ | ⟨_, h⟩ <;> (rw [h]; exact ⟨by decide, by decide, by decide, by decide⟩)
  have l0' : 0 < ts.length := by
    rcases hc with ⟨_, _, _, _, _, h, _⟩ | ⟨_, _, h, _⟩ | ⟨_, _, _, _, _, h, _⟩ | ⟨_, _, _, _, _, _, _, _, _, _, _, _, h, _⟩ | ⟨_, _, _, _, _, _, _, _, h, _⟩
    · exact txe (by rw [h]; decide)
    · exact txe (by rw [h]; decide)
    · exact txe (by rw [h]; decide)
    · exact txe (sw0 h.stand).1
    · exact txe (by rw [h]; decide)
  refine if_seq (b := false) (tt_b (by
    have t := te_over (E := E0) L1 (te_var (σ := [some (.ref r.self), some (.str z), some (.int num), some (.bl lib), some (.ref p.self), none]) (i := 4) rfl)
    rw [decide_eq_false (by omega)] at t
    exact t)) (fun z => nomatch z) fun _ => ?_
  refine asg_te (te_text L1 (te_var rfl)) ?_
  refine set_sl (σ' := [some (.ref r.self), some (.str z), some (.int num), some (.bl lib), some (.ref p.self), some (.str (tx ts 0))]) rfl ?_
  have hm : (ls = [] ∧ (tx ts 0 = "thread" ∨ (tx ts 0 = "cell" ∧ th = []))) ∨ ∃ l0 po pr xs hd ib, ls = l0 ++ [.ref po] ∧ OlAt A H1 po pr hd ib ∧ H1 pr = some (.lst xs) ∧ (tx ts 0 = "end" ∨ (tx ts 0 = "local" ∧ hd = "thread" ∧ xs = []) ∨ Stand ib (tx ts 0)) := by
    rcases hc with ⟨_, _, _, h1, h2, h3, _⟩ | ⟨h1, h2, h3, _⟩ | ⟨po, pr, _, h1, h2, h3, _⟩ | ⟨l0, po, pr, hd, ib, xs, _, _, _, h1, h2, _, h3, _⟩ | ⟨l0, po, pr, hd, ib, xs, h1, h2, h3, _⟩
    · exact .inl ⟨h1, .inr ⟨h3, h2⟩⟩
    · exact .inl ⟨h1, .inl h3⟩
    · exact .inr ⟨[], _, _, _, _, _, h1, (h2.same s1).ol, (h2.same s1).rows, .inr (.inl ⟨h3, rfl, rfl⟩)⟩
    · exact .inr ⟨_, _, _, _, _, _, h1, (h2.same s1).ol, (h2.same s1).rows, .inr (.inr h3.stand)⟩
    · exact .inr ⟨_, _, _, _, _, _, h1, (h2.same s1).ol, (h2.same s1).rows, .inl h3⟩
  refine cut_sq (sq_go (iff_un (meth_go (te_var rfl) R1.ob rfl (ta1 (te_var rfl)) ⟨r, nm, st, cl, dk, th, vk, ls, tx ts 0, rfl, R1, hm, fun G sG => ⟨true, rfl, ?_⟩⟩)))
  refine (if_neg (c := (!true) = true) (by decide)).mpr ?_
  have R1 := R1.same sG
  have L1 := L1.same sG
  have s1 := s1.trans sG
  clear k1 hm
  generalize G = H1 at R1 L1 s1 ⊢
  show tSeq _ _ _ _ _
  refine sq_go (drop_un (go_skip L1 (te_var rfl) fun H2 k2 L2 => ?_))
  have nC : ∀ a ∈ ownR r, a ∉ CL A p := fun a ha z => by
    simp only [CL, List.mem_cons, List.not_mem_nil, or_false] at z
    rcases z with z | z
    · exact R.tns a ha z
    · exact nps (z ▸ ha)
  have R2 := R1.kept k2 nC L2.tb
  have A2 : Al H H2 := (Al.of s1).trans (L2.al k2)
  have kg : ∀ {C : List Addr} {H' : Hp}, Kept (C ++ CL A p) H2 H' → Gone A C H H' := fun {C H'} k b o n e => by
    have nC2 : b ∉ CL A p := fun z => by
      simp only [CL, List.mem_cons, List.not_mem_nil, or_false] at z
      rcases z with z | z
      · exact n (by rw [z]; exact List.mem_cons_self)
      · rw [z, pf] at e; cases e
    exact k b o (fun z => (List.mem_append.mp z).elim (fun z => n (List.mem_cons_of_mem _ z)) nC2) (k2 b o nC2 (s1 b o e))
  have ola : ∀ {po pr : Addr} {hd : Str} {ib : Bool}, OlAt A H po pr hd ib → OlAt A H2 po pr hd ib ∧ po ∉ CL A p := fun {po pr hd ib} h => by
    obtain ⟨dxo, ho⟩ := id h
    have h1 : OlAt A H1 po pr hd ib := ⟨dxo, s1 _ _ ho⟩
    have c1 := h1.nCL L1
    exact ⟨⟨dxo, k2 _ _ c1 (s1 _ _ ho)⟩, c1⟩
  have opa : ∀ {po pr : Addr} {hd : Str} {ib : Bool} {xs : List V}, OpB A H r po pr hd ib xs → OpB A H2 r po pr hd ib xs ∧ po ∉ CL A p ∧ pr ∉ CL A p := fun {po pr hd ib xs} h => by
    have hr' := h.rows
    obtain ⟨tps, tt1, _⟩ := R.tb
    have c2 : pr ∉ CL A p := fun z => by
      simp only [CL, List.mem_cons, List.not_mem_nil, or_false] at z
      rcases z with z | z
      · rw [z, tt1] at hr'; cases hr'
      · rw [z, pf] at hr'; cases hr'
    exact ⟨(h.same s1).kept k2 (ola h.ol).2 c2, (ola h.ol).2, c2⟩
  have eqT : ∀ {u : Str}, tx ts 0 = u → decide (V.str (tx ts 0) = V.str u) = true := fun h => by rw [h]; simp
  have eqF : ∀ {u : Str}, tx ts 0 ≠ u → decide (V.str (tx ts 0) = V.str u) = false := fun h => decide_eq_false fun z => h (V.str.inj z)
  rcases hc with ⟨size, first, ss, rfl, rfl, h3, h4, h5, h6, h7, h8, h9, h10, kQ⟩ | ⟨rfl, rfl, h3, h4, h5, kQ⟩ | ⟨po, pr, m, rfl, op, h3, h4, h5, h6, h7, h8, kQ⟩ | ⟨l0, po, pr, hd, ib, xs, sw, ds, nw, rfl, op, hops, fm, h4, h5, h6, kQ⟩ | ⟨l0, po, pr, hd, ib, xs, rfl, op, h3, h4, h5, kQ⟩
  · refine if_go (tt_test (te_eq (te_var rfl) te_c rfl)) (fun h => ?_) fun _ => ?_
    · rw [eqF (by rw [h3]; decide)] at h; cases h
    refine if_go (tt_not (tt_tru (te_fld (te_var rfl) R2.ob T.cl_Reader T.no_Reader_lists rfl) R2.lis)) (fun _ => ?_) fun h => nomatch h
    have hcl2 : Paired (CelAt H2) cl ss := paired_mapP h7 fun v s ⟨u, nm, f, e1, e2⟩ => ⟨u, nm, f, e1, k2 _ _ (fun z => by
      simp only [CL, List.mem_cons, List.not_mem_nil, or_false] at z
      rcases z with z | z
      · obtain ⟨ps, t, _⟩ := R.tb
        rw [z, t] at e2; cases e2
      · rw [z, pf] at e2; cases e2) (s1 _ _ e2)⟩
    refine drop_un (meth_go (te_var rfl) R2.ob rfl (ta_cons (te_var rfl) (ta_cons (te_var (v := .str "cell") (by rw [h3]; rfl)) ta_nil)) ⟨r, nm, st, cl, dk, [], vk, [], p, ts, cs', vs, 1, 0, ts.length, size, first, ss, rfl, R2, L2, nps, edk, h4, h5, h6, rfl, hcl2, h8, h9, h10, ld, fun u t H' k' a' hu eu nu R' => ?_⟩)
    exact kQ u t H' (kg k') (A2 _ hu) eu nu R'
  · refine if_go (tt_test (te_eq (te_var rfl) te_c rfl)) (fun _ => ?_) fun h => ?_
    · refine drop_un (meth_go (te_var rfl) R2.ob rfl (ta1 (te_var rfl)) ⟨r, nm, st, cl, dk, vk, p, ts, cs', vs, 1, 0, rfl, R2, L2, nps, h4, h5.symm, fun r' po pr H' er own hpo hpr npo npr k' R' ol' rows' => ?_⟩)
      exact kQ r' po pr H' er (fun a ha => (own a ha).imp id (A2 a)) (A2 _ hpo) (A2 _ hpr) (kg k') R' ⟨ol', rows', npr⟩
    · rw [eqT h3] at h; cases h
  · refine if_go (tt_test (te_eq (te_var rfl) te_c rfl)) (fun h => ?_) fun _ => ?_
    · rw [eqF (by rw [h3]; decide)] at h; cases h
    refine if_go (tt_not (tt_tru (te_fld (te_var rfl) R2.ob T.cl_Reader T.no_Reader_lists rfl) R2.lis)) (fun h => nomatch h) fun _ => ?_
    obtain ⟨op2, c1, c2⟩ := opa op
    refine if_go (tt_test (te_eq (te_var rfl) te_c rfl)) (fun hl => ?_) fun hl => ?_
    · refine drop_un (meth_go (te_var rfl) R2.ob rfl (ta1 (te_var rfl)) ⟨r, nm, st, cl, dk, th, vk, [.ref po], p, ts, cs', vs, 1, 0, ts.length, m, rfl, R2, L2, nps, edk, evk, h4, h5, h6, h7, rfl, h8, ld, fun H' k' a' R' => ?_⟩)
      exact kQ H' (kg k') R' (op2.kept k' (fun z => (List.mem_append.mp z).elim (op2.ol.nOwn R2) c1) fun z => (List.mem_append.mp z).elim op.n1 c2)
    · rw [eqT h3] at hl; cases hl
  · obtain ⟨_, w1, w2, w3⟩ := sw0 fm.stand
    refine if_go (tt_test (te_eq (te_var rfl) te_c rfl)) (fun h => ?_) fun _ => ?_
    · rw [eqF w1] at h; cases h
    refine if_go (tt_not (tt_tru (te_fld (te_var rfl) R2.ob T.cl_Reader T.no_Reader_lists rfl) R2.lis)) (fun h => absurd h (by simp)) fun _ => ?_
    obtain ⟨op2, c1, c2⟩ := opa op
    refine if_go (tt_test (te_eq (te_var rfl) te_c rfl)) (fun hl => ?_) fun hl => ?_
    · rw [eqF w2] at hl; cases hl
    refine if_go (tt_test (te_eq (te_var rfl) te_c rfl)) (fun he => ?_) fun _ => ?_
    · rw [eqF w3] at he; cases he
    obtain ⟨dxo, ho⟩ := id op2.ol
    refine if_go (b := false) (tt_test (te_eqF (x := .str (tx ts 0)) (y := .non) (te_var rfl) (te_fld (te_last (te_fld (te_var rfl) R2.ob T.cl_Reader T.no_Reader_lists rfl) (te_neg te_c) (SqL.of R2.lis)) ho T.cl_OpenList T.no_OpenList_turn rfl) rfl (by intro z; cases z))) (fun z => nomatch z) fun _ => ?_
    have elib : lib = ib := by
      rcases hib with ⟨h, _⟩ | ⟨l1, po1, pr1, hd1, xs1, h, o1, _⟩
      · simp at h
      · have hp := (List.append_inj' h rfl).2
        cases hp
        obtain ⟨dx1, e1⟩ := o1
        obtain ⟨dx2, e2⟩ := op.ol
        rw [e1] at e2
        have := Option.some.inj e2
        injection this with _ _ h3
        have := congrArg (fun l : List (Str × V) => List.lookup ("in_block" : Str) l) h3
        exact V.bl.inj (Option.some.inj this)
    refine drop_un (meth_go (te_var rfl) R2.ob rfl (ta_cons (te_var rfl) (ta_cons (te_var rfl) ta_nil)) ⟨r, nm, st, cl, dk, th, vk, l0, po, pr, hd, ib, xs, p, ⟨ts, cs', vs, ib⟩, 1, 0, tx ts 0, sw, ds, nw, rfl, R2, op2.ol, fun v hv => ?_, op2.rows, op2.n1, nps, L2, by rw [pib, elib], fm, h4, h5, h6, fun s wl H' k' a' x' sa' lw fr hx' => ?_⟩)
    · obtain ⟨po1, pr1, hd1, ib1, e1, e2, e3⟩ := hops v hv
      exact ⟨po1, pr1, hd1, ib1, e1, (ola e2).1, e3⟩
    · refine kQ s wl H' (kg k') x' (sa'.less fun a ha => ?_) lw (fun w hw => A2 _ (fr w hw)) (hx'.imp id fun ⟨po', w1, w2, e, hpo, R', ol'⟩ => ⟨po', w1, w2, e, A2 _ hpo, R', ol'⟩)
      rcases List.mem_cons.mp ha with ha | ha
      · rw [ha]
        exact List.mem_cons_of_mem _ (List.mem_append_right _ (List.mem_append_left _ List.mem_cons_self))
      · rcases List.mem_cons.mp ha with ha | ha
        · rw [ha]; exact List.mem_cons_self
        · rcases List.mem_append.mp ha with ha | ha
          · exact List.mem_cons_of_mem _ (List.mem_append_left _ ha)
          · exact List.mem_cons_of_mem _ (List.mem_append_right _ (List.mem_append_right _ ha))
  · refine if_go (tt_test (te_eq (te_var rfl) te_c rfl)) (fun h => ?_) fun _ => ?_
    · rw [eqF (by rw [h3]; decide)] at h; cases h
    refine if_go (tt_not (tt_tru (te_fld (te_var rfl) R2.ob T.cl_Reader T.no_Reader_lists rfl) R2.lis)) (fun h => absurd h (by simp)) fun _ => ?_
    obtain ⟨op2, c1, c2⟩ := opa op
    refine if_go (tt_test (te_eq (te_var rfl) te_c rfl)) (fun hl => ?_) fun hl => ?_
    · rw [eqF (by rw [h3]; decide)] at hl; cases hl
    refine if_go (tt_test (te_eq (te_var rfl) te_c rfl)) (fun _ => ?_) fun he => ?_
    · refine drop_un (meth_go (te_var rfl) R2.ob rfl (ta1 (te_var rfl)) ⟨r, nm, st, cl, dk, th, vk, l0, po, pr, hd, ib, xs, p, ts, cs', vs, 0, rfl, R2, op2.ol, op2.rows, op2.n1, op2.ol.nOwn R2, (by rw [h4]; exact L2), h5, ?_⟩)
      rcases kQ with ⟨hn, kQ⟩ | ⟨hn, h0, kQ⟩
      · exact .inl ⟨hn, fun H' k' a' R' => kQ H' (kg (k'.more fun a h => List.mem_append_left _ h)) R'⟩
      · exact .inr ⟨hn, h0, fun t q1 q2 dxt ps H' k' a' R' ht hq1 hq2 et e1 pp e2 => kQ t q1 q2 dxt ps H' (kg (k'.more fun a h => List.mem_append_left _ h)) R' (A2 _ ht) (A2 _ hq1) (A2 _ hq2) et e1 pp e2⟩
    · rw [eqT h3] at he; cases he
end
end K01

namespace K01
open PySem L2 YF YG
open C8 (tCut)
/-! ### a program of two names of cells and one thread, whose block says one thing later -/
structure LocL where
  z : Str
  nm : Str
  m : Int
  ts : List Tk
def LocL.ok (l : LocL) (vs : List Str) : Prop := l.z.length ≤ 640 ∧ Scan 0 (cs l.z) l.ts none ∧ l.ts.length ≤ 1000 ∧ tx l.ts 0 = "local" ∧ tx l.ts 1 = l.nm ∧ NameOk l.nm ∧ l.nm ∉ vs ∧ tx l.ts 2 = "=" ∧ IntAt l.ts 3 l.m l.ts.length
def kvL (ls : List LocL) : Kv := ls.map fun l => (.inr l.nm, .int l.m)
structure CelL where
  z : Str
  nm : Str
  size : Int
  first : Int
  ts : List Tk
def CelL.ok (c : CelL) (cs' : List Str) : Prop := c.z.length ≤ 640 ∧ Scan 0 (cs c.z) c.ts none ∧ c.ts.length ≤ 1000 ∧ tx c.ts 0 = "cell" ∧ tx c.ts 1 = c.nm ∧ NameOk c.nm ∧ c.nm ∉ cs' ∧ CellF c.ts 2 c.size c.first c.ts.length ∧ 1 ≤ c.size ∧ c.size ≤ 12
structure PrgB (n : Nat) where
  c1 : CelL
  c2 : CelL
  zt : Str
  tt : List Tk
  ls : List LocL
  za : Str
  ta : List Tk
  zl : Str
  tl : List Tk
  ze : Str
  te : List Tk
  e : Ex
  h1 : c1.ok []
  h2 : c2.ok [c1.nm]
  ht : zt.length ≤ 640 ∧ Scan 0 (cs zt) tt none ∧ tx tt 0 = "thread" ∧ NameOk (tx tt 1) ∧ tt.length = 2
  hl : ∀ (i : Nat) (l : LocL), ls[i]? = some l → l.ok ([c1.nm, c2.nm] ++ (ls.take i).map (·.nm))
  hn : ls.length ≤ 10
  ha : za.length ≤ 640 ∧ Scan 0 (cs za) ta none ∧ tx ta 0 = "atomic" ∧ ta.length = 1
  hs : zl.length ≤ 640 ∧ Scan 0 (cs zl) tl none ∧ tl.length ≤ 1000 ∧ tx tl 0 = "later" ∧ (LE ⟨tl, [c1.nm, c2.nm], ls.map (·.nm), true⟩ n).ex 0 1 e tl.length
  he : ze.length ≤ 640 ∧ Scan 0 (cs ze) te none ∧ tx te 0 = "end" ∧ te.length = 1
def PrgB.rows {n : Nat} (p : PrgB n) : List Str := p.c1.z :: p.c2.z :: p.zt :: (p.ls.map (·.z) ++ [p.za, p.zl, p.ze, p.ze])
def nb : Str := "\n"
def stD (wd : Str) (e : Ex) : D := .tup (.cons (.str wd) (.cons e.d .nil))
/-- the block's tree -/
def blkD (e : Ex) : D := .tup (.cons (.str "block") (.cons .non (.cons (.lst (.cons (stD "later" e) .nil)) (.cons (.lst .nil) .nil))))
def spRP (K : PySem.W.Frag) (A : Adr) (n : Nat) : Sp := fun ws H Q _ => ∃ (z : Str) (p : PrgB n), ws = [.str z] ∧ z.length ≤ 20000 ∧ Txt.split z nb = p.rows ∧ GxR.TabG H A.t_is_name ∧
  ∀ (x dx q1 q2 t dxt u1 u2 : Addr) (nm : V) (s : V) (H' : Hp), Kept [A.t_is_name] H H' → GxR.TabG H' A.t_is_name → H' x = some (.ins A.a_Program dx [("cells", .ref q1), ("threads", .ref q2)]) → H' q2 = some (.lst [.ref t]) → H' t = some (.ins A.a_Thread dxt [("name", nm), ("variables", .ref u1), ("body", .ref u2)]) → H' u2 = some (.lst [s]) → Rp K (kl [A.t_is_name] H') (blkD p.e) [s] → Q (.ref x) H'
theorem m1_un {σ : L2.St} {H : Hp} {r : V → List V → Hp → VK → Prop} {to te : TE} {Q : VK} (h : to σ H fun x H1 => (∃ a, x = .str a) ∧ te σ H1 fun y H2 => r x [y] H2 Q) : tM1 r to te σ H Q := h
theorem rows_len {n : Nat} (p : PrgB n) : p.rows.length = p.ls.length + 7 := by simp [PrgB.rows]
theorem rows_at {n : Nat} (p : PrgB n) (k : Nat) (z : Str) (h : [p.za, p.zl, p.ze, p.ze][k]? = some z) : p.rows[p.ls.length + 3 + k]? = some z := by
  unfold PrgB.rows
  rw [show p.ls.length + 3 + k = p.ls.length + k + 1 + 1 + 1 by omega, List.getElem?_cons_succ, List.getElem?_cons_succ, List.getElem?_cons_succ, List.getElem?_append_right (by simp)]
  simpa using h
theorem rows_loc {n : Nat} (p : PrgB n) (j : Nat) (hj : j < p.ls.length) : p.rows[j + 3]? = some p.ls[j].z := by
  unfold PrgB.rows
  rw [List.getElem?_cons_succ, List.getElem?_cons_succ, List.getElem?_cons_succ, List.getElem?_append_left (by simpa using hj), List.getElem?_map, List.getElem?_eq_getElem hj]
  rfl
/-- the block, read so far -/
structure BkAt (K : PySem.W.Frag) (A : Adr) (H : Hp) (r : PlR) (pr w1 w2 : Addr) (s0 : V) (xs : List V) : Prop where
  tup : ∃ a, s0 = .ref a ∧ SqT K (kl (A.t_is_name :: pr :: (ownR r ++ [w1, w2])) H) a [.str "block", .non, .ref w1, .ref w2]
  l1 : H w1 = some (.lst xs)
  l2 : H w2 = some (.lst [])
  n1 : w1 ∉ A.t_is_name :: ownR r
  n2 : w2 ∉ A.t_is_name :: ownR r
  n12 : w1 ≠ w2
  np1 : w1 ≠ pr
  np2 : w2 ≠ pr
theorem BkAt.kept {K : PySem.W.Frag} {A : Adr} {H H' : Hp} {r : PlR} {pr w1 w2 : Addr} {s0 : V} {xs : List V} (b : BkAt K A H r pr w1 w2 s0 xs) (k : Gone A (w1 :: ownR r) H H') {xs' : List V} (h : H' w1 = some (.lst xs')) : BkAt K A H' r pr w1 w2 s0 xs' := by
  obtain ⟨a, e, sq⟩ := b.tup
  refine ⟨⟨a, e, Same.sqT (fun c o h => ?_) sq⟩, h, k _ _ (fun z => ?_) b.l2, b.n1, b.n2, b.n12, b.np1, b.np2⟩
  · obtain ⟨nb, h⟩ := kl_inv h
    refine kl_at (k c o (fun z => nb ?_) h) nb
    rcases List.mem_cons.mp z with z | z
    · rw [z]; exact List.mem_cons_self
    · rcases List.mem_cons.mp z with z | z
      · rw [z]; simp
      · exact List.mem_cons_of_mem _ (List.mem_cons_of_mem _ (List.mem_append_left _ z))
  · rcases List.mem_cons.mp z with z | z
    · exact b.n2 (by rw [z]; exact List.mem_cons_self)
    · rcases List.mem_cons.mp z with z | z
      · exact b.n12 z.symm
      · exact b.n2 (List.mem_cons_of_mem _ z)
theorem BkAt.same {K : PySem.W.Frag} {A : Adr} {H H' : Hp} {r : PlR} {pr w1 w2 : Addr} {s0 : V} {xs : List V} (b : BkAt K A H r pr w1 w2 s0 xs) (k : Same H H') : BkAt K A H' r pr w1 w2 s0 xs := b.kept (fun c o _ e => k c o e) (k _ _ b.l1)
theorem Gone.less {A : Adr} {C C' : List Addr} {H H' : Hp} (k : Gone A C H H') (h : ∀ a ∈ C, a ∈ C') : Gone A C' H H' := fun b o n e => k b o (fun z => n ((List.mem_cons.mp z).elim (fun z => by rw [z]; exact List.mem_cons_self) fun z => List.mem_cons_of_mem _ (h b z))) e
section
variable {P : Program} {w : World} {K : PySem.W.Frag} {mg : Str → Option Value} {base : Heap} {A : Adr} {n : Nat}
theorem OlAt.gone {r : PlR} {nm : V} {st : Int} {cl : List V} {dk : Kv} {th : List V} {vk : Kv} {ls : List V} {C : List Addr} {H H' : Hp} {po pr : Addr} {hd : Str} {ib : Bool} (h : OlAt A H po pr hd ib) (R : RdAt A H r nm st cl dk th vk ls) (g : Gone A C H H') (hC : ∀ a ∈ C, a ∈ ownR r ∨ ∃ l, H a = some (.lst l)) : OlAt A H' po pr hd ib := by
  obtain ⟨dx, e⟩ := id h
  refine ⟨dx, g _ _ (fun z => ?_) e⟩
  rcases List.mem_cons.mp z with z | z
  · obtain ⟨ps, t, _⟩ := R.tb
    rw [z, t] at e; cases e
  · rcases hC po z with z | ⟨l, z⟩
    · exact h.nOwn R z
    · rw [z] at e; cases e
def names2 {n : Nat} (p : PrgB n) : List Str := [p.c1.nm, p.c2.nm]
/-- what holds before the i-th line -/
def Stg (K : PySem.W.Frag) (A : Adr) (B : Hp) (p : PrgB n) (i : Nat) (r : PlR) (H : Hp) : Prop :=
  Kept [A.t_is_name] B H ∧ (∀ a ∈ ownR r, B a = none) ∧
  ((i = 0 ∧ RdAt A H r .non 0 [] [] [] [] []) ∨
  (i = 1 ∧ ∃ u1 t1, RdAt A H r .non 0 [.ref u1] [(.inr p.c1.nm, .ref t1)] [] [] [] ∧ CelAt H (.ref u1) p.c1.size) ∨
  (i = 2 ∧ ∃ cl dk, RdAt A H r .non 0 cl dk [] [] [] ∧ dk.map (·.1) = (names2 p).map Sum.inr) ∨
  (3 ≤ i ∧ i ≤ p.ls.length + 3 ∧ ∃ cl dk po pr, dk.map (·.1) = (names2 p).map Sum.inr ∧ B po = none ∧ B pr = none ∧ RdAt A H r (.str (tx p.tt 1)) 0 cl dk [] (kvL (p.ls.take (i - 3))) [.ref po] ∧ OpB A H r po pr "thread" false []) ∨
  (i = p.ls.length + 4 ∧ ∃ cl dk po pr po' w1 w2 s0, dk.map (·.1) = (names2 p).map Sum.inr ∧ B po = none ∧ B pr = none ∧ B w1 = none ∧ RdAt A H r (.str (tx p.tt 1)) 1 cl dk [] (kvL p.ls) [.ref po, .ref po'] ∧ OpB A H r po pr "thread" false [s0] ∧ OlAt A H po' w1 "block" true ∧ BkAt K A H r pr w1 w2 s0 []) ∨
  (i = p.ls.length + 5 ∧ ∃ cl dk po pr po' w1 w2 s0 s1, dk.map (·.1) = (names2 p).map Sum.inr ∧ B po = none ∧ B pr = none ∧ B w1 = none ∧ RdAt A H r (.str (tx p.tt 1)) 2 cl dk [] (kvL p.ls) [.ref po, .ref po'] ∧ OpB A H r po pr "thread" false [s0] ∧ OlAt A H po' w1 "block" true ∧ BkAt K A H r pr w1 w2 s0 [s1] ∧ Rp K (kl (A.t_is_name :: w1 :: ownR r) H) (stD "later" p.e) [s1]) ∨
  (i = p.ls.length + 6 ∧ ∃ cl dk po pr w1 w2 s0 s1, dk.map (·.1) = (names2 p).map Sum.inr ∧ B po = none ∧ B pr = none ∧ B w1 = none ∧ RdAt A H r (.str (tx p.tt 1)) 2 cl dk [] (kvL p.ls) [.ref po] ∧ OpB A H r po pr "thread" false [s0] ∧ BkAt K A H r pr w1 w2 s0 [s1] ∧ Rp K (kl (A.t_is_name :: w1 :: ownR r) H) (stD "later" p.e) [s1]) ∨
  (i = p.ls.length + 7 ∧ ∃ cl dk t dxt u1 u2 pr w1 w2 s0 s1, RdAt A H r (.str (tx p.tt 1)) 2 cl dk [.ref t] (kvL p.ls) [] ∧ H t = some (.ins A.a_Thread dxt [("name", .str (tx p.tt 1)), ("variables", .ref u1), ("body", .ref u2)]) ∧ H u2 = some (.lst [s0]) ∧ BkAt K A H r pr w1 w2 s0 [s1] ∧ Rp K (kl (A.t_is_name :: w1 :: ownR r) H) (stD "later" p.e) [s1]))
theorem keys_of (p : PrgB n) (k : Nat) : (kvL (p.ls.take k)).map (·.1) = ((p.ls.take k).map (·.nm)).map Sum.inr := by
  unfold kvL
  rw [List.map_map, List.map_map]
  rfl
theorem ok_read_program (TB : GxR.TabB base mg A.c_is_name A.t_is_name) (FT : FmT K w A) (T : Txt K mg A) (hx : FnOk P w K mg base CX0 (11 * n + 6) A.a_read_expression A.d_read_expression ["line"] (spRd K A fun X => (LE X n).ex)) : FnOk P w K mg base CX0 (11 * n + 11) A.a_read_program A.d_read_program ["text"] (spRP K A n) := by
  refine T.F_read_program.ok (k := 11 * n + 10) sc_read_program (fun ws H Q E ⟨_, _, e, _⟩ => by rw [e]; rfl) (fun cdv A' outer s H ws Q E hr h' => ?_)
  obtain ⟨z, p, rfl, zl, hsp, tb, kQ⟩ := h'
  refine ⟨_, pss_cons (ps_if (pt_cmpR op_gt (pe_callB call_len_str (by rfl) T.n_len (by decide +kernel) (pa_cons (pv 0) pa_nil)) (pe_glob (v := .int 20000) rfl T.g_MOST_CHARACTERS ⟨_, rfl⟩) (nomark _))
  (pss_one (ps_dead))
  (pss_nil))
  (pss_cons (ps_set (i := 1) sc_read_program.nd rfl (Or.inl rfl) (pe_split (pv 0) (pe_str)))
  (C8.pss_cut (ps_if (pt_cmpR op_eq (pe_ix ix_list (pv 1) (pe_un un_neg pe_int) (fun _ _ => rfl)) (pe_str) (nomark _))
  (pss_one (ps_expr (pe_bm0 PySem.F.plainAttrs_list PySem.F.slot_list_pop PySem.F.type_list_pop mt_pop (pv 1))))
  (pss_nil))
  (pss_cons (ps_set (i := 2) sc_read_program.nd rfl (Or.inl rfl) (pe_make0 T.mk_Reader (ok_Reader___init__ T) (hr.mono (by omega)) rfl T.g_Reader T.b_Reader___init__ .nil pass0))
  (pss_cons (ps_for PassesOwn.never rfl (pi_enumK (by rfl) T.n_enumerate (by decide) (by decide) (pa_cons (pv 1) pa_nil) (pk_cons (pe_int) pk_nil)) (pg_tup (by rfl) (pgs_cons (pg_name (i := 3) sc_read_program.nd rfl (Or.inl rfl)) (pgs_cons (pg_name (i := 4) sc_read_program.nd rfl (Or.inl rfl)) pgs_nil)))
  (pss_one (ps_expr (pe_meth (pv 2) T.cl_Reader T.m_Reader_read_line (ok_Reader_read_line TB FT T hx) (hr.mono (by omega)) T.b_Reader_read_line .nil pass0 (pa_cons (pv 4) (pa_cons (pv 3) pa_nil))))))
  (pss_cons (ps_if (PW.pt (pw_or (pt_truth (pe_fld (pv 2) rfl) (by intro _; rfl)) (pw_or1 (pt_not (pt_truth (pe_fld (pv 2) rfl) (by intro _; rfl))))))
  (pss_one (ps_dead))
  (pss_nil))
  (pss_one (ps_ret (pe_make T.mk_Program (ok_Program___init__ T) (hr.mono (by omega)) rfl T.g_Program T.b_Program___init__ .nil pass0 (pa_cons (pe_fld (pv 2) rfl) (pa_cons (pe_fld (pv 2) rfl) pa_nil)))))))))), ?_⟩
  refine if_seq (b := false) (tt_test (by
    have t := te_i0 (g := fun i j => V.bl (decide (j < i))) (te_lens (te_var (σ := L2.start ["text", "rows", "reader", "number", "row"] [.str z]) (i := 0) rfl) (show z.length ≤ sizeLine by rw [sizeLine_eq]; omega)) (te_c (v := .int 20000)) (H := H)
    rw [decide_eq_false (by omega)] at t
    exact t)) (fun z => nomatch z) fun _ => ?_
  refine asg_un (m1_un (Te.go (te_var rfl) ⟨⟨z, rfl⟩, Te.go te_c ⟨z, nb, rfl, rfl, rfl, by rw [sizeLine_eq]; omega, fun q hq => ?_⟩⟩))
  rw [hsp]
  have s0 : Same H (upd H q (.lst (p.rows.map V.str))) := Same.upd hq
  have e0 : upd H q (.lst (p.rows.map V.str)) q = some (.lst (p.rows.map V.str)) := upd_same
  have tb0 := TabG.same tb s0
  have B0 := s0
  generalize upd H q (.lst (p.rows.map V.str)) = H0 at s0 e0 tb0 B0 ⊢
  dsimp only
  refine set_sl (σ' := [some (.str z), some (.ref q), none, none, none]) rfl ?_
  have zne : p.ze ≠ "" := fun h => by
    have h1 := p.he.2.2.2
    have h2 := p.he.2.1
    rw [h] at h2
    rcases scan_inv h2 with ⟨_, q, _⟩ | ⟨l', q, _⟩ | ⟨_, k', t', ts', q, _⟩ | ⟨_, r, q, _⟩
    · rw [q] at h1; cases h1
    · cases q
    · cases q
    · cases q
  have hlast := rows_at p 3 p.ze rfl
  have tl : Te (tOp (rIxL K) (tVar 1) (tUn (fun x H Q => ∃ i, x = .int i ∧ Q (.int (-i)) H) (tC (.int 1)))) [some (.str z), some (.ref q), none, none, none] H0 (.str p.ze) := te_ixL (te_var rfl) (te_neg te_c) (SqL.of e0) (atI_neg1 (n := p.ls.length + 6) (by rw [List.length_map, rows_len]) (by rw [List.getElem?_map, hlast]; rfl))
  refine cut_sq (if_seq (b := false) (tt_test (te_eqF (x := .str p.ze) tl te_c rfl (fun h => zne (V.str.inj h)))) (fun z => nomatch z) fun _ => ?_)
  refine asg_un (go_make ta_nil fun x dx hx0 hdx ndx => ?_)
  have s1 : Same H0 (upd (upd H0 dx (.own x)) x (.ins A.a_Reader dx [])) := (Same.upd hdx).trans (Same.upd (by rw [upd_ne ndx.symm]; exact hx0))
  refine ⟨x, dx, rfl, upd_same, TabG.same tb0 s1, fun r H2 er k2 own R => ⟨rfl, ?_⟩⟩
  have s2 : Same H0 H2 := fun b o e => k2 b o (fun z => by rw [z, hx0] at e; cases e) (s1 b o e)
  refine set_sl (σ' := [some (.str z), some (.ref q), some (.ref r.self), none, none]) (by rw [er]; rfl) ?_
  have qt : q ∉ [A.t_is_name] := fun h => by
    obtain ⟨ps, t, _⟩ := tb0
    rw [← List.mem_singleton.mp h, e0] at t
    cases t
  have frB : ∀ {G : Hp} {a : Addr}, Kept [A.t_is_name] H0 G → GxR.TabG G A.t_is_name → G a = none → H0 a = none := fun {G a} k tg e => k.none (fun h => by
    obtain ⟨ps, t, _⟩ := tg
    rw [← List.mem_singleton.mp h, e] at t
    cases t) e
  have gk : ∀ {G G' : Hp} {C : List Addr}, Kept [A.t_is_name] H0 G → (∀ a ∈ C, H0 a = none) → Gone A C G G' → Kept [A.t_is_name] H0 G' := fun {G G' C} k hC g b o n e => g b o (fun z => by
    rcases List.mem_cons.mp z with z | z
    · exact n (List.mem_singleton.mpr z)
    · rw [hC b z] at e; cases e) (k b o n e)
  have frr : ∀ a ∈ ownR r, H0 a = none := fun a ha => by
    by_cases z : a = x
    · rw [z]; exact hx0
    · exact same_none s1 (own a ha z)
  have st0 : Stg K A H0 p 0 r H2 := ⟨Kept.of s2, frr, .inl ⟨rfl, R⟩⟩
  refine sq_go ?_
  refine for_go (J := ItK K 1 q) (fun R' q' => (ta1 (te_var rfl)) _ ⟨q, _, rfl, SqL.of (s2 _ _ e0), q'⟩) (walk_enumK (K := K) (k := 1) (a := q) (xs := p.rows.map V.str)) (fun i σ G => ∃ r v3 v4, σ = [some (.str z), some (.ref q), some (.ref r.self), v3, v4] ∧ Stg K A H0 p i r G) ⟨r, none, none, rfl, st0⟩ (fun i σ G _ ⟨r, _, _, _, h⟩ => SqL.of (h.1 _ _ qt e0)) ?_ ?_
  · rintro i y σ G _ hi ⟨r, v3, v4, rfl, kp, fr, hst⟩ ⟨Tn, yv, rfl, hT, rfl, ey⟩
    have sT : Same G (upd G Tn (.tup [.int (1 + (i : Int)), yv])) := Same.upd hT
    have eT : upd G Tn (.tup [.int (1 + (i : Int)), yv]) Tn = some (.tup [.int (1 + (i : Int)), yv]) := upd_same
    have kT : Kept [A.t_is_name] H0 (upd G Tn (.tup [.int (1 + (i : Int)), yv])) := kp.trans (Kept.of sT)
    generalize upd G Tn (.tup [.int (1 + (i : Int)), yv]) = G1 at sT eT kT ⊢
    refine ⟨Tn, _, rfl, SqT.of eT, rfl, _, _, rfl, _, _, rfl, rfl, ?_⟩
    obtain ⟨row, er', rfl⟩ : ∃ row, p.rows[i]? = some row ∧ yv = .str row := by
      rw [List.getElem?_map] at ey
      cases h : p.rows[i]? with
      | none => rw [h] at ey; cases ey
      | some row => rw [h] at ey; exact ⟨row, rfl, (Option.some.inj ey).symm⟩
    rcases hst with ⟨rfl, R⟩ | ⟨rfl, u1, t1, R, cu⟩ | ⟨rfl, cl, dk, R, edk⟩ | ⟨h1, h2, cl, dk, po, pr, edk, fpo, fpr, R, op⟩ | ⟨rfl, cl, dk, po, pr, po', w1, w2, b0, edk, fpo, fpr, fw1, R, op, ol', bk⟩ | ⟨rfl, cl, dk, po, pr, po', w1, w2, b0, b1, edk, fpo, fpr, fw1, R, op, ol', bk, rs⟩ | ⟨rfl, cl, dk, po, pr, w1, w2, b0, b1, edk, fpo, fpr, fw1, R, op, bk, rs⟩ | ⟨rfl, _⟩
    · -- the first cell
      have e1 : row = p.c1.z := (Option.some.inj er').symm
      subst e1
      have R1 := R.same sT
      obtain ⟨a1, a2, a3, a4, a5, a6, a7, a8, a9, a10⟩ := p.h1
      refine drop_un (meth_go (te_var rfl) R1.ob rfl (ta_cons (te_var rfl) (ta_cons (te_var rfl) ta_nil)) ⟨r, _, _, _, _, _, _, _, p.c1.z, _, p.c1.ts, [], [], rfl, R1, a1, a2, a3, rfl, rfl, by simp, .inl ⟨p.c1.size, p.c1.first, [], rfl, rfl, a4, by rw [a5]; exact a6, by simp, a8, .nil, a9, by show (0 : Int) + p.c1.size ≤ 24; omega, by simp, fun u t H' g hu eu nu R' => ?_⟩⟩)
      rw [a5] at R' eu
      exact ⟨r, _, _, rfl, gk kT fr g, fr, .inr (.inl ⟨rfl, u, t, R', u, _, _, rfl, eu⟩)⟩
    · have e1 : row = p.c2.z := (Option.some.inj er').symm
      subst e1
      have R1 := R.same sT
      obtain ⟨u0, nm0, f0, eu0, hu0⟩ := cu
      cases eu0
      obtain ⟨a1, a2, a3, a4, a5, a6, a7, a8, a9, a10⟩ := p.h2
      have b9 := p.h1.2.2.2.2.2.2.2.2.2
      refine drop_un (meth_go (te_var rfl) R1.ob rfl (ta_cons (te_var rfl) (ta_cons (te_var rfl) ta_nil)) ⟨r, _, _, _, _, _, _, _, p.c2.z, _, p.c2.ts, [p.c1.nm], [], rfl, R1, a1, a2, a3, rfl, rfl, by simp, .inl ⟨p.c2.size, p.c2.first, [p.c1.size], rfl, rfl, a4, by rw [a5]; exact a6, by rw [a5]; exact a7, a8, .cons ⟨u1, nm0, f0, rfl, sT _ _ hu0⟩ .nil, a9, by show p.c1.size + 0 + p.c2.size ≤ 24; omega, by simp, fun u t H' g hu eu nu R' => ?_⟩⟩)
      rw [a5] at R'
      exact ⟨r, _, _, rfl, gk kT fr g, fr, .inr (.inr (.inl ⟨rfl, _, _, R', rfl⟩))⟩
    · have e1 : row = p.zt := (Option.some.inj er').symm
      subst e1
      have R1 := R.same sT
      obtain ⟨a1, a2, a3, a4, a5⟩ := p.ht
      have ldk : dk.length ≤ 100 := by have := congrArg List.length edk; simp [names2] at this; omega
      refine drop_un (meth_go (te_var rfl) R1.ob rfl (ta_cons (te_var rfl) (ta_cons (te_var rfl) ta_nil)) ⟨r, _, _, _, _, _, _, _, p.zt, _, p.tt, names2 p, [], rfl, R1, a1, a2, by omega, edk, rfl, ldk, .inr (.inl ⟨rfl, rfl, a3, a4, a5, fun r' po pr H' er own' hpo hpr g R' op' => ?_⟩)⟩)
      exact ⟨r', _, _, by rw [er]; rfl, gk kT fr g, fun a ha => (own' a ha).elim (fr a) (fun e => frB kT R1.tb e), .inr (.inr (.inr (.inl ⟨by omega, by omega, cl, dk, po, pr, edk, frB kT R1.tb hpo, frB kT R1.tb hpr, R', op'⟩)))⟩
    · have R1 := R.same sT
      have op1 := op.same sT
      have ldk : dk.length ≤ 100 := by have := congrArg List.length edk; simp [names2] at this; omega
      have keys := keys_of p
      by_cases hlt : i < p.ls.length + 3
      · obtain ⟨j, rfl⟩ : ∃ j, i = j + 3 := ⟨i - 3, by omega⟩
        have hj : j < p.ls.length := by omega
        rw [rows_loc p j hj] at er'
        have er2 : row = p.ls[j].z := (Option.some.inj er').symm
        subst er2
        obtain ⟨a1, a2, a3, a4, a5, a6, a7, a8, a9⟩ := p.hl j p.ls[j] (List.getElem?_eq_getElem hj)
        have hn := p.hn
        simp only [Nat.add_sub_cancel] at R1
        refine drop_un (meth_go (te_var rfl) R1.ob rfl (ta_cons (te_var rfl) (ta_cons (te_var rfl) ta_nil)) ⟨r, _, _, _, _, _, _, _, p.ls[j].z, _, p.ls[j].ts, names2 p, (p.ls.take j).map (·.nm), rfl, R1, a1, a2, a3, edk, keys j, ldk, .inr (.inr (.inl ⟨po, pr, p.ls[j].m, rfl, op1, a4, by rw [a5]; exact a6, by rw [a5]; exact a7, a8, a9, by simp [kvL]; omega, fun H' g R' op' => ?_⟩))⟩)
        refine ⟨r, _, _, rfl, gk kT fr g, fr, .inr (.inr (.inr (.inl ⟨by omega, by omega, cl, dk, po, pr, edk, fpo, fpr, ?_, op'⟩)))⟩
        have ek : kvL (p.ls.take (j + 1)) = kvL (p.ls.take j) ++ [(.inr (tx p.ls[j].ts 1), .int p.ls[j].m)] := by
          unfold kvL
          rw [List.take_succ_eq_append_getElem hj, List.map_append, a5]
          rfl
        rw [show j + 3 + 1 - 3 = j + 1 by omega, ek]
        exact R'
      · have ei : i = p.ls.length + 3 := by omega
        subst ei
        have er2 : row = p.za := by
          have := rows_at p 0 p.za rfl
          rw [Nat.add_zero, er'] at this
          exact Option.some.inj this
        subst er2
        simp only [Nat.add_sub_cancel, List.take_length] at R1
        obtain ⟨a1, a2, a3, a4⟩ := p.ha
        have keys' := keys p.ls.length
        simp only [List.take_length] at keys'
        have t1 : tx p.ta 1 = "" := by unfold tx; rw [List.getElem?_eq_none (by omega)]
        have fm : Form ⟨p.ta, names2 p, p.ls.map (·.nm), false⟩ n (tx p.ta 0) 0 1 "block" [.non] 2 p.ta.length := by
          rw [a3, a4]
          exact .atomic rfl (by rw [t1]; decide)
        refine drop_un (meth_go (te_var rfl) R1.ob rfl (ta_cons (te_var rfl) (ta_cons (te_var rfl) ta_nil)) ⟨r, _, _, _, _, _, _, _, p.za, _, p.ta, names2 p, p.ls.map (·.nm), rfl, R1, a1, a2, by omega, edk, keys', ldk, .inr (.inr (.inr (.inl ⟨[], po, pr, "thread", false, [], "block", [.non], 2, rfl, op1, fun v hv => ⟨po, pr, "thread", false, List.mem_singleton.mp hv, op1.ol, by decide⟩, fm, by decide, by simp, by simp, fun s' wl H' g x' sa lw frw hx' => ?_⟩)))⟩)
        rcases hx' with ⟨h, _⟩ | ⟨po', w1, w2, rfl, hpo', R', ol'⟩
        · cases h
        have tns : ∀ {a : Addr}, G1 a = none → a ∉ A.t_is_name :: ownR r := fun {a} e z => by
          rcases List.mem_cons.mp z with z | z
          · obtain ⟨ps, t, _⟩ := R1.tb
            rw [← z, e] at t; cases t
          · exact R1.nOwn e z
        have hw1 := frw w1 (by simp)
        have hw2 := frw w2 (by simp)
        obtain ⟨a0, vs0, ea0, sq0, rd0, hl0, nd0⟩ := sa
        have ev0 : vs0 = [.non] := by
          obtain ⟨x6, xs6, rfl, h1, h2⟩ := rd0
          have h1 : [x6] = [V.non] := h1
          have h2 : xs6 = [] := h2
          rw [h2, (List.cons.inj h1).1]
        subst ev0
        have own1 : ∀ a ∈ pr :: ownR r, a ∈ ownR r ∨ ∃ l, G1 a = some (.lst l) := fun a ha => (List.mem_cons.mp ha).elim (fun z => .inr ⟨[], by rw [z]; exact op1.rows⟩) .inl
        have op' : OpB A H' r po pr "thread" false [s'] := ⟨op1.ol.gone R1 g own1, x', op1.n1⟩
        have npr : ∀ {a : Addr}, G1 a = none → a ≠ pr := fun e z => by rw [z, op1.rows] at e; cases e
        exact ⟨r, _, _, rfl, gk kT (C := pr :: ownR r) (fun a ha => (List.mem_cons.mp ha).elim (fun z => by rw [z]; exact fpr) (fr a)) g, fr, .inr (.inr (.inr (.inr (.inl ⟨rfl, cl, dk, po, pr, po', w1, w2, s', edk, fpo, fpr, frB kT R1.tb hw1, R', op', ol', ⟨⟨a0, ea0, Same.sqT (fun b o e => e) sq0⟩, hl0 w1 (by simp), hl0 w2 (by simp), tns hw1, tns hw2, by simpa using nd0, npr hw1, npr hw2⟩⟩))))⟩
    · -- the statement within the block
      have R1 := R.same sT
      have op1 := op.same sT
      have bk1 := bk.same sT
      have ol1 : OlAt A G1 po' w1 "block" true := by
        obtain ⟨dx, e⟩ := ol'
        exact ⟨dx, sT _ _ e⟩
      have ldk : dk.length ≤ 100 := by have := congrArg List.length edk; simp [names2] at this; omega
      have er2 : row = p.zl := by
        have := rows_at p 1 p.zl rfl
        rw [show p.ls.length + 3 + 1 = p.ls.length + 4 by omega, er'] at this
        exact Option.some.inj this
      subst er2
      obtain ⟨a1, a2, a3, a4, a5⟩ := p.hs
      have keys' := keys_of p p.ls.length
      simp only [List.take_length] at keys'
      have fm : Form ⟨p.tl, names2 p, p.ls.map (·.nm), true⟩ n (tx p.tl 0) 0 1 "later" [p.e.d] 0 p.tl.length := by
        rw [a4]
        exact .later rfl a5
      have opb : OpB A G1 r po' w1 "block" true [] := ⟨ol1, bk1.l1, fun z => bk1.n1 (List.mem_cons_of_mem _ z)⟩
      refine drop_un (meth_go (te_var rfl) R1.ob rfl (ta_cons (te_var rfl) (ta_cons (te_var rfl) ta_nil)) ⟨r, _, _, _, _, _, _, _, p.zl, _, p.tl, names2 p, p.ls.map (·.nm), rfl, R1, a1, a2, a3, edk, keys', ldk, .inr (.inr (.inr (.inl ⟨[.ref po], po', w1, "block", true, [], "later", [p.e.d], 0, rfl, opb, fun v hv => ?_, fm, by decide, by simp, by simp, fun s' wl H' g x' sa lw frw hx' => ?_⟩)))⟩)
      · rcases List.mem_cons.mp hv with hv | hv
        · exact ⟨po, pr, "thread", false, hv, op1.ol, by decide⟩
        · exact ⟨po', w1, "block", true, List.mem_singleton.mp hv, ol1, by decide⟩
      · have ewl : wl = [] := List.length_eq_zero_iff.mp lw
        subst ewl
        rcases hx' with ⟨_, R'⟩ | ⟨_, _, _, h, _⟩
        · obtain ⟨a0, vs0, ea0, sq0, rd0, _, _⟩ := sa
          simp only [List.map_nil, List.append_nil] at sq0 rd0
          have own1 : ∀ a ∈ w1 :: ownR r, a ∈ ownR r ∨ ∃ l, G1 a = some (.lst l) := fun a ha => (List.mem_cons.mp ha).elim (fun z => .inr ⟨[], by rw [z]; exact bk1.l1⟩) .inl
          have npr : pr ∉ A.t_is_name :: w1 :: ownR r := fun z => by
            rcases List.mem_cons.mp z with z | z
            · obtain ⟨ps, t, _⟩ := R1.tb
              have := op1.rows
              rw [z, t] at this; cases this
            · rcases List.mem_cons.mp z with z | z
              · exact bk1.np1 z.symm
              · exact op1.n1 z
          have op' : OpB A H' r po pr "thread" false [b0] := ⟨op1.ol.gone R1 g own1, g _ _ npr op1.rows, op1.n1⟩
          have lv : vs0.length ≤ 1 := by rw [rp_row_len rd0]; exact Nat.le_refl _
          exact ⟨r, _, _, rfl, gk kT (C := w1 :: ownR r) (fun a ha => (List.mem_cons.mp ha).elim (fun z => by rw [z]; exact fw1) (fr a)) g, fr, .inr (.inr (.inr (.inr (.inr (.inl ⟨rfl, cl, dk, po, pr, po', w1, w2, b0, s', edk, fpo, fpr, fw1, R', op', ol1.gone R1 g own1, bk1.kept g x', ⟨a0, _, by rw [ea0], sq0, by rw [List.length_cons]; omega, _, _, rfl, rfl, rd0⟩⟩)))))⟩
        · cases h
    · -- the block's end
      have R1 := R.same sT
      have op1 := op.same sT
      have bk1 := bk.same sT
      have ol1 : OlAt A G1 po' w1 "block" true := by
        obtain ⟨dx, e⟩ := ol'
        exact ⟨dx, sT _ _ e⟩
      have rs1 : Rp K (kl (A.t_is_name :: w1 :: ownR r) G1) (stD "later" p.e) [b1] := Rp.mono (Kept.of sT).kl rs
      have ldk : dk.length ≤ 100 := by have := congrArg List.length edk; simp [names2] at this; omega
      have er2 : row = p.ze := by
        have := rows_at p 2 p.ze rfl
        rw [show p.ls.length + 3 + 2 = p.ls.length + 5 by omega, er'] at this
        exact Option.some.inj this
      subst er2
      obtain ⟨a1, a2, a3, a4⟩ := p.he
      have keys' := keys_of p p.ls.length
      simp only [List.take_length] at keys'
      have opb : OpB A G1 r po' w1 "block" true [b1] := ⟨ol1, bk1.l1, fun z => bk1.n1 (List.mem_cons_of_mem _ z)⟩
      refine drop_un (meth_go (te_var rfl) R1.ob rfl (ta_cons (te_var rfl) (ta_cons (te_var rfl) ta_nil)) ⟨r, _, _, _, _, _, _, _, p.ze, _, p.te, names2 p, p.ls.map (·.nm), rfl, R1, a1, a2, by omega, edk, keys', ldk, .inr (.inr (.inr (.inr ⟨[.ref po], po', w1, "block", true, [b1], rfl, opb, a3, a4, by simp, .inl ⟨by decide, fun H' g R' => ?_⟩⟩)))⟩)
      have own1 : ∀ a ∈ ownR r, a ∈ ownR r ∨ ∃ l, G1 a = some (.lst l) := fun a ha => .inl ha
      have nt : ∀ {a : Addr} {l : List V}, G1 a = some (.lst l) → a ∉ ownR r → a ∉ A.t_is_name :: ownR r := fun e n z => by
        rcases List.mem_cons.mp z with z | z
        · obtain ⟨ps, t, _⟩ := R1.tb
          rw [z, t] at e; cases e
        · exact n z
      have op' : OpB A H' r po pr "thread" false [b0] := ⟨op1.ol.gone R1 g own1, g _ _ (nt op1.rows op1.n1) op1.rows, op1.n1⟩
      have g1 : Gone A (w1 :: ownR r) G1 H' := g.less fun a h => List.mem_cons_of_mem _ h
      exact ⟨r, _, _, rfl, gk kT fr g, fr, .inr (.inr (.inr (.inr (.inr (.inr (.inl ⟨rfl, cl, dk, po, pr, w1, w2, b0, b1, edk, fpo, fpr, fw1, R', op', bk1.kept g1 (g _ _ bk1.n1 bk1.l1), Rp.mono (Kept.kl g1) rs1⟩))))))⟩
    · -- the thread's end
      have R1 := R.same sT
      have op1 := op.same sT
      have bk1 := bk.same sT
      have rs1 : Rp K (kl (A.t_is_name :: w1 :: ownR r) G1) (stD "later" p.e) [b1] := Rp.mono (Kept.of sT).kl rs
      have ldk : dk.length ≤ 100 := by have := congrArg List.length edk; simp [names2] at this; omega
      have er2 : row = p.ze := by
        have := rows_at p 3 p.ze rfl
        rw [show p.ls.length + 3 + 3 = p.ls.length + 6 by omega, er'] at this
        exact Option.some.inj this
      subst er2
      obtain ⟨a1, a2, a3, a4⟩ := p.he
      have keys' := keys_of p p.ls.length
      simp only [List.take_length] at keys'
      refine drop_un (meth_go (te_var rfl) R1.ob rfl (ta_cons (te_var rfl) (ta_cons (te_var rfl) ta_nil)) ⟨r, _, _, _, _, _, _, _, p.ze, _, p.te, names2 p, p.ls.map (·.nm), rfl, R1, a1, a2, by omega, edk, keys', ldk, .inr (.inr (.inr (.inr ⟨[], po, pr, "thread", false, [b0], rfl, op1, a3, a4, by simp, .inr ⟨rfl, rfl, fun t q1 q2 dxt ps H' g R' ht hq1 hq2 et e1 pp e2 => ?_⟩⟩)))⟩)
      have g1 : Gone A (w1 :: ownR r) G1 H' := g.less fun a h => List.mem_cons_of_mem _ h
      exact ⟨r, _, _, rfl, gk kT fr g, fr, .inr (.inr (.inr (.inr (.inr (.inr (.inr ⟨rfl, cl, dk, t, dxt, q1, q2, pr, w1, w2, b0, b1, R', et, e2, bk1.kept g1 (g _ _ bk1.n1 bk1.l1), Rp.mono (Kept.kl g1) rs1⟩))))))⟩
    · rw [List.length_map, rows_len] at hi
      omega
  · rintro σ G ⟨r, v3, v4, rfl, kp, fr, hst⟩
    rw [List.length_map, rows_len] at hst
    rcases hst with ⟨h, _⟩ | ⟨h, _⟩ | ⟨h, _⟩ | ⟨_, h, _⟩ | ⟨h, _⟩ | ⟨h, _⟩ | ⟨h, _⟩ | ⟨_, cl, dk, t, dxt, u1, u2, pr, w1, w2, b0, b1, R, et, eu, bk, rs⟩
    · omega
    · omega
    · omega
    · omega
    · omega
    · omega
    · omega
    · dsimp only
      refine if_seq (tt_or (tt_tru (te_fld (te_var rfl) R.ob T.cl_Reader T.no_Reader_lists rfl) R.lis) fun _ => tt_not (tt_tru (te_fld (te_var rfl) R.ob T.cl_Reader T.no_Reader_threads rfl) R.thr)) (fun h => nomatch h) fun _ => ?_
      refine ret_un (go_make (ta_cons (te_fld (te_var rfl) R.ob T.cl_Reader T.no_Reader_cells rfl) (ta_cons (te_fld (te_var rfl) R.ob T.cl_Reader T.no_Reader_threads rfl) ta_nil)) fun x' dx' hx' hdx' ndx' => ?_)
      have s3 : Same G (upd (upd G dx' (.own x')) x' (.ins A.a_Program dx' [])) := (Same.upd hdx').trans (Same.upd (by rw [upd_ne ndx'.symm]; exact hx'))
      have R3 := R.same s3
      refine ⟨x', dx', r.pcl, r.pth, cl, [.ref t], rfl, upd_same, R3.cells, R3.thr, fun q1 q2 H' k' ex e1 e2 => ⟨rfl, ?_⟩⟩
      have nx : ∀ {b : Addr} {o : HO}, G b = some o → b ≠ x' := fun e z => by rw [z, hx'] at e; cases e
      have s4 : Same G H' := fun b o e => k' b o (nx e) (s3 b o e)
      have kt : ∀ {C : List Addr}, Same (kl (A.t_is_name :: C) G) (kl [A.t_is_name] H') := fun b o e => by
        obtain ⟨nb, e⟩ := kl_inv e
        exact kl_at (s4 b o e) (fun z => nb (by rw [List.mem_singleton.mp z]; exact List.mem_cons_self))
      have bk4 := bk.same s4
      have l1 : SqL K (kl [A.t_is_name] H') w1 [b1] := SqL.of (kl_at bk4.l1 (fun z => bk.n1 (by rw [List.mem_singleton.mp z]; exact List.mem_cons_self)))
      have l2 : SqL K (kl [A.t_is_name] H') w2 [] := SqL.of (kl_at bk4.l2 (fun z => bk.n2 (by rw [List.mem_singleton.mp z]; exact List.mem_cons_self)))
      obtain ⟨a0, ea0, sq0⟩ := bk.tup
      refine kQ x' dx' q1 q2 t dxt u1 u2 _ b0 H' ((Kept.of s0).trans (kp.trans (Kept.of s4))) (TabG.same R.tb s4) ex e2 (s4 _ _ et) (s4 _ _ eu) ⟨a0, _, by rw [ea0], Same.sqT kt sq0, (by decide : 4 ≤ 100000), _, _, rfl, rfl, _, _, rfl, rfl, _, _, rfl, ⟨w1, _, rfl, l1, (by decide : 1 ≤ 100000), _, _, rfl, Rp.mono kt rs, rfl⟩, _, _, rfl, ⟨w2, _, rfl, l2, Nat.zero_le _, rfl⟩, rfl⟩
end
end K01

namespace K01
open PySem L2 YF YG
/-! ### the law's texts -/
def sgW : List Str := ["plus", "minus", "times", "over", "rest", "less", "atmost", "same", "and", "or"]
def sgT : List Str := [" + ", " - ", " * ", " / ", " rest ", " < ", " <= ", " = ", " and ", " or "]
def sg (w : Str) : Str := match (sgW.zip sgT).lookup w with
  | some z => z
  | none => ""
theorem sg_at {wd : Str} (h : wd ∈ sgW) : ∃ j, sgW[j]? = some wd ∧ wd ∉ sgW.take j ∧ sgT[j]? = some (sg wd) := by
  simp only [sgW, List.mem_cons, List.not_mem_nil, or_false] at h
  rcases h with rfl | rfl | rfl | rfl | rfl | rfl | rfl | rfl | rfl | rfl
  · exact ⟨0, rfl, by decide, rfl⟩
  · exact ⟨1, rfl, by decide, rfl⟩
  · exact ⟨2, rfl, by decide, rfl⟩
  · exact ⟨3, rfl, by decide, rfl⟩
  · exact ⟨4, rfl, by decide, rfl⟩
  · exact ⟨5, rfl, by decide, rfl⟩
  · exact ⟨6, rfl, by decide, rfl⟩
  · exact ⟨7, rfl, by decide, rfl⟩
  · exact ⟨8, rfl, by decide, rfl⟩
  · exact ⟨9, rfl, by decide, rfl⟩
def spSg : Sp := fun ws H Q _ => ∃ w : Str, ws = [.str w] ∧ ∀ H', Same H H' → Q (.str (sg w)) H'
def lvW : List Str := ["or", "and", "not", "less", "atmost", "same", "plus", "minus", "times", "over", "rest", "negative"]
def lvN : List Int := [0, 1, 2, 3, 3, 3, 4, 4, 5, 5, 5, 6]
def lvI (w : Str) : Int := match (lvW.zip lvN).lookup w with
  | some n => n
  | none => 7
def lev : Ex → Int
  | .num n => if n < 0 then 6 else 7
  | .var _ _ => 7
  | .cell _ _ => 7
  | .one w _ => lvI w
  | .two w _ _ => lvI w
theorem lv_at {wd : Str} (h : wd ∈ lvW) : ∃ j, lvW[j]? = some wd ∧ wd ∉ lvW.take j ∧ lvN[j]? = some (lvI wd) := by
  simp only [lvW, List.mem_cons, List.not_mem_nil, or_false] at h
  rcases h with rfl | rfl | rfl | rfl | rfl | rfl | rfl | rfl | rfl | rfl | rfl | rfl
  · exact ⟨0, rfl, by decide, rfl⟩
  · exact ⟨1, rfl, by decide, rfl⟩
  · exact ⟨2, rfl, by decide, rfl⟩
  · exact ⟨3, rfl, by decide, rfl⟩
  · exact ⟨4, rfl, by decide, rfl⟩
  · exact ⟨5, rfl, by decide, rfl⟩
  · exact ⟨6, rfl, by decide, rfl⟩
  · exact ⟨7, rfl, by decide, rfl⟩
  · exact ⟨8, rfl, by decide, rfl⟩
  · exact ⟨9, rfl, by decide, rfl⟩
  · exact ⟨10, rfl, by decide, rfl⟩
  · exact ⟨11, rfl, by decide, rfl⟩
/-- an expression's tuple: its word comes first -/
theorem ex_word {K : PySem.W.Frag} {B : Hp} {e : Ex} {v : V} (r : Rp K B e.d [v]) : ∃ a xs, v = .ref a ∧ SqT K B a (.str e.word :: xs) := by
  cases e <;> (obtain ⟨a, xs, e1, h1, _, y, ys, rfl, e2, _⟩ := r; cases e1; refine ⟨a, ys, rfl, ?_⟩; have e2 := e2; simp only [Rp] at e2; cases e2; exact h1)
section
variable {P : Program} {w : World} {K : PySem.W.Frag} {mg : Str → Option Value} {base : Heap} {A : Adr}
theorem ok_law_sign (T : Txt K mg A) : FnOk P w K mg base CX0 1 A.a__law_sign A.d__law_sign ["word"] spSg := by
  refine T.F__law_sign.ok sc_law_sign (fun ws H Q E ⟨_, e, _⟩ => by rw [e]; rfl) (fun cdv A' outer s H ws Q E hr h' => ?_)
  obtain ⟨wd, rfl, k⟩ := h'
  refine ⟨_, pss_cons (ps_set (i := 1) sc_law_sign.nd rfl (Or.inl rfl) (pe_lst (pa_cons (pe_str) (pa_cons (pe_str) (pa_cons (pe_str) (pa_cons (pe_str) (pa_cons (pe_str) (pa_cons (pe_str) (pa_cons (pe_str) (pa_cons (pe_str) (pa_cons (pe_str) (pa_cons (pe_str) pa_nil))))))))))))
  (pss_cons (ps_if (pt_cmpR op_in_seq (pv 0) (pv 1) (by rfl))
  (pss_one (ps_ret (pe_ix ix_list (pe_lst (pa_cons (pe_str) (pa_cons (pe_str) (pa_cons (pe_str) (pa_cons (pe_str) (pa_cons (pe_str) (pa_cons (pe_str) (pa_cons (pe_str) (pa_cons (pe_str) (pa_cons (pe_str) (pa_cons (pe_str) pa_nil))))))))))) (pe_bm PySem.F.plainAttrs_list PySem.F.slot_list_index PySem.F.type_list_index mt_index (pv 1) (pa_cons (pv 0) pa_nil)) (fun _ _ => rfl))))
  (pss_nil))
  (pss_one (ps_ret (pe_str)))), ?_⟩
  refine asg_un (lst_un ((ta_cons te_c (ta_cons te_c (ta_cons te_c (ta_cons te_c (ta_cons te_c (ta_cons te_c (ta_cons te_c (ta_cons te_c (ta_cons te_c (ta_cons te_c ta_nil)))))))))) _ ⟨by show 10 ≤ sizeLine; decide, fun q hq => ?_⟩))
  have s0 : Same H (upd H q (.lst (sgW.map V.str))) := Same.upd hq
  have e0 : upd H q (.lst (sgW.map V.str)) q = some (.lst (sgW.map V.str)) := upd_same
  show tSeq _ _ _ _ (upd H q (.lst (sgW.map V.str)))
  generalize upd H q (.lst (sgW.map V.str)) = H0 at s0 e0 ⊢
  refine set_sl (σ' := [some (.str wd), some (.ref q)]) rfl ?_
  refine if_seq (tt_test (te_inT (zs := sgW) (te_var rfl) (te_var rfl) (.inl (SqL.of e0)))) (fun h => ?_) fun h => ?_
  · have h := of_decide_eq_true h
    refine ret_un ?_
    refine op_un (lst_un ((ta_cons te_c (ta_cons te_c (ta_cons te_c (ta_cons te_c (ta_cons te_c (ta_cons te_c (ta_cons te_c (ta_cons te_c (ta_cons te_c (ta_cons te_c ta_nil)))))))))) _ ⟨by show 10 ≤ sizeLine; decide, fun q2 hq2 => ?_⟩))
    have s1 : Same H0 (upd H0 q2 (.lst (sgT.map V.str))) := Same.upd hq2
    have e1 : upd H0 q2 (.lst (sgT.map V.str)) q2 = some (.lst (sgT.map V.str)) := upd_same
    have e01 := s1 _ _ e0
    show tBM _ _ _ _ _ _ (upd H0 q2 (.lst (sgT.map V.str))) _
    generalize upd H0 q2 (.lst (sgT.map V.str)) = H1 at s1 e1 e01 ⊢
    refine bm_un (Te.go (te_var rfl) ⟨.inl ⟨rfl, _, SqL.of e01⟩, (ta1 (te_var rfl)) _ ?_⟩)
    obtain ⟨j, j1, j2, j3⟩ := sg_at h
    have fl : (sgW.map V.str).all flatV = true := by decide +kernel
    refine ⟨q, _, _, j, .str wd, rfl, rfl, SqL.of e01, rfl, fl, by rw [List.getElem?_map, j1]; rfl, by simp [eqV], fun m z' hm hz => ?_, ?_⟩
    · rw [List.getElem?_map] at hz
      cases hz' : sgW[m]? with
      | none => rw [hz'] at hz; cases hz
      | some u =>
        rw [hz'] at hz
        cases hz
        have : u ≠ wd := fun z => j2 (by
          rw [← z]
          exact List.mem_of_getElem? (i := m) (by rw [List.getElem?_take_of_lt hm]; exact hz'))
        simp [eqV, this]
    · exact ⟨q2, _, _, .str (sg wd), rfl, rfl, SqL.of e1, atI_nat (by rw [List.getElem?_map, j3]; rfl), k _ (s0.trans s1)⟩
  · have h := of_decide_eq_false h
    refine ret_te te_c ?_
    have : sg wd = "" := by
      unfold sg
      rw [show (sgW.zip sgT).lookup wd = none from by
        simp [sgW] at h
        obtain ⟨h1, h2, h3, h4, h5, h6, h7, h8, h9, h10⟩ := h
        have b : ∀ {u : Str}, ¬ wd = u → (wd == u) = false := fun h => beq_eq_false_iff_ne.mpr h
        simp [sgW, sgT, List.lookup, b h1, b h2, b h3, b h4, b h5, b h6, b h7, b h8, b h9, b h10]]
    rw [← this]
    exact k _ s0
end
end K01

namespace K01
open PySem L2 YF YG
/-! ### texts of expressions: their pieces, and how they are read back -/
abbrev Kt := Str × Str
def kLp : Kt := ("sign", "(")
def kRp : Kt := ("sign", ")")
def kMi : Kt := ("sign", "-")
def kNo : Kt := ("word", "not")
def kSay : Kt := ("word", "say")
def opL : List Kt := [("sign", "+"), ("sign", "-"), ("sign", "*"), ("sign", "/"), ("word", "rest"), ("sign", "<"), ("sign", "<="), ("sign", "="), ("word", "and"), ("word", "or")]
def opK (w : Str) : Kt := match (sgW.zip opL).lookup w with
  | some z => z
  | none => ("", "")
def numT (n : Int) : Str := Str.ofString (toString n)
def numK (n : Int) : List Kt := if n < 0 then [kMi, ("number", numT (-n))] else [("number", numT n)]
def isPos : Ex → Bool
  | .num n => decide (0 ≤ n)
  | _ => false
def isNum : Ex → Bool
  | .num _ => true
  | _ => false
def cmpW : List Str := ["less", "atmost", "same"]
def dpE : Ex → Nat
  | .num _ => 0
  | .var _ _ => 0
  | .cell _ a => dpE a + 1
  | .one _ a => dpE a + 1
  | .two _ a b => max (dpE a) (dpE b) + 1
/-- an expression over locals of vs and cells of cs -/
def wfC (vs cs : List Str) : Ex → Prop
  | .num n => InR n
  | .var w x => w = "local" ∧ ∃ z : Str, x = .str z ∧ NameOk z ∧ z ∈ vs
  | .cell x i => NameOk x ∧ x ∈ cs ∧ x ∉ vs ∧ wfC vs cs i
  | .one w a => w ∈ Ex.words1 ∧ wfC vs cs a
  | .two w a b => w ∈ Ex.words2 ∧ wfC vs cs a ∧ wfC vs cs b
def PAt (ts : List Tk) (pl : Nat) (l : List Kt) : Prop := ∀ i k, l[i]? = some k → ∃ t : Tk, ts[pl + i]? = some t ∧ t.1 = k.1 ∧ t.2.1 = k.2
theorem PAt.left {ts : List Tk} {pl : Nat} {a b : List Kt} (h : PAt ts pl (a ++ b)) : PAt ts pl a := fun i k e => h i k (by
  have hl : i < a.length := by
    by_cases q : i < a.length
    · exact q
    · rw [List.getElem?_eq_none (by omega)] at e; cases e
  rw [List.getElem?_append_left hl]; exact e)
theorem PAt.right {ts : List Tk} {pl : Nat} {a b : List Kt} (h : PAt ts pl (a ++ b)) : PAt ts (pl + a.length) b := fun i k e => by
  have := h (a.length + i) k (by rw [List.getElem?_append_right (by omega), Nat.add_sub_cancel_left]; exact e)
  rw [← Nat.add_assoc] at this
  exact this
theorem PAt.tail {ts : List Tk} {pl : Nat} {a : Kt} {b : List Kt} (h : PAt ts pl (a :: b)) : PAt ts (pl + 1) b := PAt.right (a := [a]) h
theorem PAt.txt {ts : List Tk} {pl : Nat} {a : Kt} {b : List Kt} (h : PAt ts pl (a :: b)) : tx ts pl = a.2 := by
  obtain ⟨t, e, _, e2⟩ := h 0 a rfl
  unfold tx
  rw [Nat.add_zero] at e
  rw [e]
  exact e2
theorem PAt.isn {ts : List Tk} {pl : Nat} {a : Kt} {b : List Kt} (h : PAt ts pl (a :: b)) : isN ts pl = decide (a.1 = "number") := by
  obtain ⟨t, e, e1, _⟩ := h 0 a rfl
  unfold isN
  rw [Nat.add_zero] at e
  rw [e, ← e1]
theorem PAt.of {ts : List Tk} {l : List Kt} (h : ts.map (fun t => (t.1, t.2.1)) = l) : PAt ts 0 l := fun i k e => by
  rw [← h, List.getElem?_map] at e
  cases q : ts[i]? with
  | none => rw [q] at e; cases e
  | some t =>
    rw [q] at e
    cases Option.some.inj e
    exact ⟨t, by rw [Nat.zero_add]; exact q, rfl, rfl⟩
/-! levels -/
section
variable (X : Tx) (n : Nat)
def r7 : Rl := Atm X (Prn X (LE X n).ex)
def r6 : Rl := Sgn X (LE X n).sg (r7 X n)
def r5 : Rl := Lft X opPrd (r6 X n)
def r4 : Rl := Lft X opSum (r5 X n)
def r3 : Rl := Cmp X (r4 X n)
def r2 : Rl := Ntt X (LE X n).nt (r3 X n)
def r1 : Rl := Lft X [("and", "and")] (r2 X n)
def r0 : Rl := Lft X [("or", "or")] (r1 X n)
def rl : Nat → Rl
  | 0 => r0 X n | 1 => r1 X n | 2 => r2 X n | 3 => r3 X n | 4 => r4 X n | 5 => r5 X n | 6 => r6 X n | _ => r7 X n
end
theorem le_ex {X : Tx} {n : Nat} : (LE X (n + 1)).ex = r0 X n := rfl
theorem le_nt {X : Tx} {n : Nat} : (LE X (n + 1)).nt = r2 X n := rfl
theorem le_sg {X : Tx} {n : Nat} : (LE X (n + 1)).sg = r6 X n := rfl
def fvN : List Int := [-1, -1, 4, 4, 5, 5, 5, 3, 3, 3, 3, 3, 1, 0]
def flv (z : Str) : Int := match (fol.zip fvN).lookup z with
  | some n => n
  | none => -1
theorem fl_prd : ∀ z ∈ fol, flv z < 5 → ∀ p ∈ opPrd, p.1 ≠ z := by decide +kernel
theorem fl_sum : ∀ z ∈ fol, flv z < 4 → ∀ p ∈ opSum, p.1 ≠ z := by decide +kernel
theorem fl_cmp : ∀ z ∈ fol, flv z < 3 → ∀ p ∈ opCmp, p.1 ≠ z := by decide +kernel
theorem fl_and : ∀ z ∈ fol, flv z < 1 → ∀ p ∈ [(("and" : Str), ("and" : Str))], p.1 ≠ z := by decide +kernel
theorem fl_or : ∀ z ∈ fol, flv z < 0 → ∀ p ∈ [(("or" : Str), ("or" : Str))], p.1 ≠ z := by decide +kernel
theorem fl_max : ∀ z ∈ fol, flv z ≤ 5 ∧ flv z ≠ 2 := by decide +kernel
section
variable {X : Tx} {n mo pl q : Nat} {e : Ex}
theorem lft0 {ops : List (Str × Str)} {sub : Rl} (h : sub mo pl e q) (f : tx X.ts q ∈ fol) (no : ∀ p ∈ ops, p.1 ≠ tx X.ts q) : Lft X ops sub mo pl e q := ⟨0, e, q, h, .nil f fun u m => no _ m rfl⟩
theorem rl_up {M : Nat} (hM : M ≤ 6) (h : rl X n (M + 1) mo pl e q) (f : tx X.ts q ∈ fol) (fl : flv (tx X.ts q) < (M : Int)) (n1 : M = 6 → tx X.ts pl ≠ "-") (n2 : M = 2 → tx X.ts pl ≠ "not") : rl X n M mo pl e q := by
  obtain rfl | rfl | rfl | rfl | rfl | rfl | rfl : M = 0 ∨ M = 1 ∨ M = 2 ∨ M = 3 ∨ M = 4 ∨ M = 5 ∨ M = 6 := by omega
  · exact lft0 h f (fl_or _ f fl)
  · exact lft0 h f (fl_and _ f fl)
  · exact .inl ⟨n2 rfl, h⟩
  · exact ⟨e, q, h, f, .inl ⟨fun u m => fl_cmp _ f fl _ m rfl, rfl, rfl⟩⟩
  · exact lft0 h f (fl_sum _ f fl)
  · exact lft0 h f (fl_prd _ f fl)
  · exact .inl ⟨n1 rfl, h⟩
theorem rl_to {M : Nat} : ∀ k, M + k ≤ 7 → rl X n (M + k) mo pl e q → tx X.ts q ∈ fol → flv (tx X.ts q) < (M : Int) → (7 ≤ M + k → tx X.ts pl ≠ "-") → (3 ≤ M + k → tx X.ts pl ≠ "not") → rl X n M mo pl e q
  | 0, _, h, _, _, _, _ => h
  | k + 1, hk, h, f, fl, n1, n2 => by
    refine rl_to k (by omega) ?_ f fl (fun z => n1 (by omega)) (fun z => n2 (by omega))
    exact rl_up (M := M + k) (by omega) h f (by omega) (fun z => n1 (by omega)) fun z => n2 (by omega)
/-- a row of operators that may go on -/
inductive Opn (X : Tx) (ops : List (Str × Str)) (sub : Rl) (mo pl : Nat) : Ex → Nat → Prop
  | base {e : Ex} {q : Nat} (s : sub mo pl e q) : Opn X ops sub mo pl e q
  | step {a b : Ex} {u : Str} {p1 q : Nat} (o : Opn X ops sub mo pl a p1) (f : tx X.ts p1 ∈ fol) (h : (tx X.ts p1, u) ∈ ops) (s : sub mo (p1 + 1) b q) : Opn X ops sub mo pl (.two u a b) q
theorem Opn.run {ops : List (Str × Str)} {sub : Rl} {e : Ex} {p1 : Nat} (o : Opn X ops sub mo pl e p1) : ∀ k e' q, Chain X ops sub mo k e p1 e' q → Lft X ops sub mo pl e' q := by
  induction o with
  | base s => exact fun k e' q c => ⟨k, _, _, s, c⟩
  | step o f h s ih => exact fun k e' q c => ih (k + 1) e' q (.cons f h s c)
theorem Opn.fin {ops : List (Str × Str)} {sub : Rl} (o : Opn X ops sub mo pl e q) (f : tx X.ts q ∈ fol) (no : ∀ p ∈ ops, p.1 ≠ tx X.ts q) : Lft X ops sub mo pl e q := o.run 0 e q (.nil f fun u m => no _ m rfl)
end
def rA (X : Tx) (n : Nat) : Nat → Rl
  | 0 => fun mo pl => Opn X [("or", "or")] (r1 X n) mo pl
  | 1 => fun mo pl => Opn X [("and", "and")] (r2 X n) mo pl
  | 4 => fun mo pl => Opn X opSum (r5 X n) mo pl
  | 5 => fun mo pl => Opn X opPrd (r6 X n) mo pl
  | L => rl X n L
theorem rA_fin {X : Tx} {n mo pl q L : Nat} {e : Ex} (hL : L ≤ 7) (h : rA X n L mo pl e q) (f : tx X.ts q ∈ fol) (fl : flv (tx X.ts q) < (L : Int)) : rl X n L mo pl e q := by
  obtain rfl | rfl | rfl | rfl | rfl | rfl | rfl | rfl : L = 0 ∨ L = 1 ∨ L = 2 ∨ L = 3 ∨ L = 4 ∨ L = 5 ∨ L = 6 ∨ L = 7 := by omega
  · exact Opn.fin h f (fl_or _ f fl)
  · exact Opn.fin h f (fl_and _ f fl)
  · exact h
  · exact h
  · exact Opn.fin h f (fl_sum _ f fl)
  · exact Opn.fin h f (fl_prd _ f fl)
  · exact h
  · exact h
theorem lev_num (n : Int) : lev (.num n) = if n < 0 then 6 else 7 := rfl
def levN (e : Ex) : Nat := (lev e).toNat
theorem lvI_rng (w : Str) : 0 ≤ lvI w ∧ lvI w ≤ 7 := by
  by_cases h : w ∈ lvW
  · simp only [lvW, List.mem_cons, List.not_mem_nil, or_false] at h
    rcases h with rfl | rfl | rfl | rfl | rfl | rfl | rfl | rfl | rfl | rfl | rfl | rfl <;> decide
  · have : (lvW.zip lvN).lookup w = none := by
      have hw := h
      simp only [lvW, List.mem_cons, List.not_mem_nil, or_false, not_or] at hw
      obtain ⟨h1, h2, h3, h4, h5, h6, h7, h8, h9, h10, h11, h12⟩ := hw
      simp only [lvW, lvN, List.zip_cons_cons, List.lookup, beq_false_of_ne h1, beq_false_of_ne h2, beq_false_of_ne h3, beq_false_of_ne h4, beq_false_of_ne h5, beq_false_of_ne h6, beq_false_of_ne h7, beq_false_of_ne h8, beq_false_of_ne h9, beq_false_of_ne h10, beq_false_of_ne h11, beq_false_of_ne h12]
      rfl
    unfold lvI
    rw [this]
    decide
theorem lev_rng (e : Ex) : 0 ≤ lev e ∧ lev e ≤ 7 := by
  cases e with
  | num m => simp only [lev]; split <;> decide
  | var _ _ => exact (by decide : (0 : Int) ≤ 7 ∧ (7 : Int) ≤ 7)
  | cell _ _ => exact (by decide : (0 : Int) ≤ 7 ∧ (7 : Int) ≤ 7)
  | one w a => exact lvI_rng w
  | two w a b => exact lvI_rng w
theorem levN_eq (e : Ex) : ((levN e : Nat) : Int) = lev e := by
  unfold levN
  have := (lev_rng e).1
  omega
/-! what stands first -/
theorem name_ne {z : Str} (h : NameOk z) : z ≠ "not" ∧ z ≠ "-" ∧ z ≠ "(" := by
  refine ⟨fun e => h.2.2.1 (by rw [e]; decide +kernel), fun e => ?_, fun e => ?_⟩
  · have := h.2.2.2 45 (by rw [e]; decide +kernel)
    exact absurd this (by decide +kernel)
  · have := h.2.2.2 40 (by rw [e]; decide +kernel)
    exact absurd this (by decide +kernel)
theorem num_ch {n : Int} (h0 : 0 ≤ n) : ∀ c ∈ cs (numT n), inS digs c = true := by
  obtain ⟨m, rfl⟩ := Int.eq_ofNat_of_zero_le h0
  intro c hc
  have e : cs (numT (m : Int)) = (Nat.toDigits 10 m).map Char.toNat := PySem.W.KIN.signs_num m
  rw [e] at hc
  obtain ⟨ch, hch, rfl⟩ := List.mem_map.mp hc
  have r := PyProof.Rows.digit_range (Nat.isDigit_of_mem_toDigits (by decide) (by decide) hch)
  have all : ∀ c : Fin 10, inS digs (48 + c.val) = true := by decide +kernel
  have := all ⟨ch.toNat - 48, by omega⟩
  have e2 : 48 + (ch.toNat - 48) = ch.toNat := by omega
  rw [← e2]
  exact this
theorem num_ne {n : Int} (h0 : 0 ≤ n) : numT n ≠ "not" ∧ numT n ≠ "-" := by
  refine ⟨fun e => ?_, fun e => ?_⟩
  · have := num_ch h0 110 (by rw [e]; decide +kernel)
    exact absurd this (by decide +kernel)
  · have := num_ch h0 45 (by rw [e]; decide +kernel)
    exact absurd this (by decide +kernel)
theorem cg2 {α β γ : Type} (f : α → β → γ) {a a' : α} {b b' : β} (h : a = a') (k : b = b') : f a b = f a' b' := by rw [h, k]
def Free (b : Str) : Prop := ∀ c, growsC b c = false
theorem free_of {b : Str} {e : Nat} (h : (cs b).getLast? = some e) (h1 : inS lets e = false) (h2 : inS digs e = false) (h3 : b ≠ "<" ∧ b ≠ ">") : Free b := fun c => by
  unfold growsC
  rw [h]
  simp [h1, h2, h3]
theorem free_nil : Free "" := fun c => rfl
theorem free_lp : Free "(" := free_of (e := 40) rfl (by decide +kernel) (by decide +kernel) ⟨by decide, by decide⟩
theorem free_mi : Free "-" := free_of (e := 45) rfl (by decide +kernel) (by decide +kernel) ⟨by decide, by decide⟩
theorem fits_rp (b : Str) : fits b ")" := fun c hc => by
  have e : c = 41 := by
    have : (cs ")").head? = some 41 := by decide +kernel
    rw [this] at hc
    exact (Option.some.inj hc).symm
  subst e
  have h1 : inS lets 41 = false := by decide +kernel
  have h2 : inS digs 41 = false := by decide +kernel
  unfold growsC
  cases (cs b).getLast? with
  | none => rfl
  | some e => simp [h1, h2]
def kts (ts : List Tk) : List Kt := ts.map fun t => (t.1, t.2.1)
theorem app_as (a b c : Str) : a ++ b ++ c = a ++ (b ++ c) := str_ext (by simp only [cs_app, List.append_assoc])
theorem scan_len {a : Nat} {l : Cs} {ts : List Tk} {b : Option (Int × Str)} (h : Scan a l ts b) : ts.length ≤ l.length := by
  induction h with
  | nil => exact Nat.le_refl _
  | sp h ih => rw [List.length_cons]; omega
  | tok h0 h1 h2 h3 h ih => rw [List.length_drop] at ih; rw [List.length_cons]; omega
  | bad h0 h1 => exact Nat.zero_le _
/-! numbers -/
theorem digit_pos : ∀ d : Fin 10, d.val ≠ 0 → Nat.digitChar d.val ≠ '0' := by decide
theorem dig_head (m : Nat) (h : 1 ≤ m) : (Nat.toDigits 10 m).head? ≠ some '0' := by
  induction m using Nat.strongRecOn with
  | _ m ih =>
    by_cases hm : m < 10
    · rw [Nat.toDigits_of_lt_base hm]
      intro e
      exact digit_pos ⟨m, hm⟩ (by show m ≠ 0; omega) (Option.some.inj e)
    · have t : Nat.toDigits 10 (m / 10) ++ Nat.toDigits 10 (m % 10) = Nat.toDigits 10 (10 * (m / 10) + m % 10) := Nat.toDigits_append_toDigits (by decide) (by omega) (Nat.mod_lt m (by decide))
      rw [Nat.div_add_mod] at t
      rw [← t]
      have i := ih (m / 10) (by omega) (by omega)
      cases q : Nat.toDigits 10 (m / 10) with
      | nil =>
        have := PySem.W.KIN.val_back (m / 10)
        rw [q] at this
        have : (0 : Nat) = m / 10 := this
        omega
      | cons c r =>
        rw [q] at i
        exact i
theorem cs_num (m : Nat) : cs (numT (m : Int)) = (Nat.toDigits 10 m).map Char.toNat := PySem.W.KIN.signs_num m
theorem num_len {n : Int} (h : InR n) (h0 : 0 ≤ n) : 0 < (numT n).length ∧ (numT n).length ≤ 10 := by
  have hb : InR n := h
  unfold InR at hb
  refine ⟨?_, PySem.W.KT.len_num h0 (by omega)⟩
  obtain ⟨m, rfl⟩ := Int.eq_ofNat_of_zero_le h0
  rw [len_cs, cs_num, List.length_map]
  cases q : Nat.toDigits 10 m with
  | nil =>
    by_cases hm : m < 10
    · rw [Nat.toDigits_of_lt_base hm] at q
      cases q
    · have := PySem.W.KIN.val_back m
      rw [q] at this
      have : (0 : Nat) = m := this
      omega
  | cons c r => rw [List.length_cons]; omega
theorem num_good {n : Int} (h : InR n) (h0 : 0 ≤ n) : Good "number" (numT n) := by
  have hl := num_len h h0
  have hb : InR n := h
  unfold InR at hb
  refine good_num (num_ch h0) hl.1 (by omega) ?_
  unfold numB
  rw [if_neg (by omega), if_neg ?_]
  · have e : PySem.intText? (numT n) = some n := PySem.W.KIN.num_reads h0 (by omega)
    rw [e]
    show some (decide (-1000000000 ≤ n ∧ n ≤ 1000000000)) = some true
    rw [decide_eq_true hb]
  · rintro ⟨h1, h2⟩
    obtain ⟨m, rfl⟩ := Int.eq_ofNat_of_zero_le h0
    rw [cs_num, List.head?_map] at h1
    have hm : 1 ≤ m := by
      by_cases z : m = 0
      · subst z
        exact absurd h2 (by decide +kernel)
      · omega
    have dh := dig_head m hm
    cases q : (Nat.toDigits 10 m).head? with
    | none => rw [q] at h1; cases h1
    | some c =>
      rw [q] at h1 dh
      refine dh (congrArg some ?_)
      have hc : c.toNat = 48 := Option.some.inj h1
      exact Char.toNat_inj.mp hc
theorem num_neg {n : Int} (h : n < 0) : Str.ofString (toString n) = "-" ++ numT (-n) := by
  obtain ⟨m, rfl⟩ : ∃ m, n = Int.negSucc m := by
    cases n with
    | ofNat m => exact absurd h (by simp)
    | negSucc m => exact ⟨m, rfl⟩
  refine str_ext ?_
  rw [cs_app]
  have e : -(Int.negSucc m) = ((m + 1 : Nat) : Int) := rfl
  rw [e]
  have e1 : cs (Str.ofString (toString (Int.negSucc m))) = (toString (Int.negSucc m)).toList.map Char.toNat := PyProof.Rows.signs_ofString _
  have e2 : toString (Int.negSucc m) = "-" ++ Nat.repr (m + 1) := rfl
  rw [e1, e2, String.toList_append, List.map_append, cs_num, Nat.toList_repr]
  rfl
theorem good_not : Good "word" "not" := good_word (by decide +kernel) (by decide) (by decide)
theorem name_good {z : Str} (h : NameOk z) : Good "word" z := good_word h.2.2.2 h.1 h.2.1
theorem op_good : ∀ w ∈ Ex.words2, Good (opK w).1 (opK w).2 ∧ sg w = " " ++ ((opK w).2 ++ " ") := by
  intro w h
  simp only [Ex.words2, List.mem_cons, List.not_mem_nil, or_false] at h
  have wd : ∀ t : Str, t = "rest" ∨ t = "and" ∨ t = "or" → Good "word" t := by
    rintro t (rfl | rfl | rfl) <;> exact good_word (by decide +kernel) (by decide) (by decide)
  rcases h with rfl | rfl | rfl | rfl | rfl | rfl | rfl | rfl | rfl | rfl <;> refine ⟨?_, by decide +kernel⟩ <;> first
    | exact wd _ (.inl rfl)
    | exact wd _ (.inr (.inl rfl))
    | exact wd _ (.inr (.inr rfl))
    | exact good_signs _ (by decide)
/-! pieces of a text, whatever stands ahead -/
def LexF (z : Str) (l : List Kt) : Prop := ∀ ln before ds, fits before z → Pre ln before ds → ∃ last ts, Pre (ln ++ z) last (ds ++ ts) ∧ kts ts = l
def Sep (z : Str) : Prop := ∀ last, fits last z
theorem sep_of {z : Str} {c : Nat} (h : (cs z).head? = some c) (h1 : inS lets c = false) (h2 : inS digs c = false) (h3 : c ≠ 61) : Sep z := fun last d hd => by
  rw [h] at hd
  cases Option.some.inj hd
  unfold growsC
  cases (cs last).getLast? with
  | none => rfl
  | some e => simp [h1, h2, h3]
theorem head_cs {a b : Str} (h : a ≠ "") : (cs (a ++ b)).head? = (cs a).head? := by
  rw [cs_app]
  cases q : cs a with
  | nil => exact absurd (str_ext (by rw [q]; rfl)) h
  | cons c r => rfl
theorem fits_app {x a b : Str} (h : a ≠ "") (f : fits x (a ++ b)) : fits x a := fun c hc => f c (by rw [head_cs h]; exact hc)
theorem app_fits {x a b : Str} (h : a ≠ "") (f : fits x a) : fits x (a ++ b) := fun c hc => f c (by rw [← head_cs h]; exact hc)
theorem lf_one {k t : Str} (g : Good k t) : LexF t [(k, t)] := fun ln before ds f p => ⟨t, [(k, t, (ln.length : Int) + 1)], p.good g f, rfl⟩
theorem good_ne {k t : Str} (g : Good k t) : t ≠ "" := fun z => by
  have := g.1
  rw [z] at this
  exact absurd this (by decide)
theorem lf_app {a b : Str} {la lb : List Kt} (ha : LexF a la) (na : a ≠ "") (hb : LexF b lb) (sb : Sep b) : LexF (a ++ b) (la ++ lb) := fun ln before ds f p => by
  obtain ⟨x, ts, p1, e1⟩ := ha ln before ds (fits_app na f) p
  obtain ⟨y, us, p3, e2⟩ := hb _ _ _ (sb x) p1
  rw [app_as, List.append_assoc] at p3
  exact ⟨y, ts ++ us, p3, by rw [kts, List.map_append]; exact cg2 _ e1 e2⟩
/-- a piece, and what may follow it -/
theorem lf_good {a b k : Str} {lb : List Kt} (g : Good k a) (hb : LexF b lb) (sb : fits a b) : LexF (a ++ b) ((k, a) :: lb) := fun ln before ds f p => by
  have p1 := p.good g (fits_app (good_ne g) f)
  obtain ⟨y, us, p3, e2⟩ := hb _ _ _ sb p1
  rw [app_as, List.append_assoc] at p3
  exact ⟨y, _ :: us, p3, congrArg _ e2⟩
theorem lf_sp {s b : Str} {lb : List Kt} {n : Nat} (e : cs s = List.replicate n 32) (hb : LexF b lb) : LexF (s ++ b) lb := fun ln before ds f p => by
  cases n with
  | zero =>
    have e0 : s = "" := str_ext (by rw [e]; rfl)
    subst e0
    have e1 : ("" : Str) ++ b = b := str_ext (by rw [cs_app]; rfl)
    rw [e1] at f ⊢
    exact hb ln before ds f p
  | succ n =>
    have p1 := p.sp e (by omega)
    obtain ⟨y, us, p3, e2⟩ := hb _ _ _ (fun c _ => free_nil c) p1
    rw [app_as] at p3
    exact ⟨y, us, p3, e2⟩
theorem sp_sep {s b : Str} {n : Nat} (e : cs s = List.replicate n 32) (h : 0 < n ∨ Sep b) : Sep (s ++ b) := by
  cases n with
  | zero =>
    have e0 : s = "" := str_ext (by rw [e]; rfl)
    subst e0
    have e1 : ("" : Str) ++ b = b := str_ext (by rw [cs_app]; rfl)
    rw [e1]
    exact h.resolve_left (by omega)
  | succ n => exact sep_of (c := 32) (by rw [cs_app, e]; rfl) (by decide +kernel) (by decide +kernel) (by decide)
theorem sep_lp (b : Str) : Sep ("(" ++ b) := sep_of (c := 40) (by rw [cs_app]; rfl) (by decide +kernel) (by decide +kernel) (by decide)
theorem sep_rp : Sep ")" := sep_of (c := 41) (by decide +kernel) (by decide +kernel) (by decide +kernel) (by decide)
theorem free_fits {a b : Str} (h : Free a) : fits a b := fun c _ => h c
/-- in parentheses, with spaces within -/
theorem lf_par {s1 s2 z : Str} {l : List Kt} {n1 n2 : Nat} (e1 : cs s1 = List.replicate n1 32) (e2 : cs s2 = List.replicate n2 32) (nz : z ≠ "") (h : LexF z l) : LexF ("(" ++ (s1 ++ (z ++ (s2 ++ ")")))) (kLp :: (l ++ [kRp])) :=
  lf_good (good_signs "(" (by decide)) (lf_sp e1 (lf_app h nz (lf_sp e2 (lf_one (good_signs ")" (by decide)))) (sp_sep e2 (.inr sep_rp)))) (free_fits free_lp)
theorem lf_line {z : Str} {l : List Kt} (h : LexF z l) : ∃ ts, Scan 0 (cs z) ts none ∧ kts ts = l := by
  obtain ⟨x, ts, p, e⟩ := h "" "" [] (fun c _ => free_nil c) pre_start
  have q := p.fin (sp := "") (n := 0) (by decide +kernel)
  rw [app_nil _ (by decide +kernel), List.nil_append] at q
  have e0 : ("" : Str) ++ z = z := str_ext (by rw [cs_app]; rfl)
  rw [e0] at q
  exact ⟨ts, q, e⟩
theorem kts_tx {ts : List Tk} {l : List Kt} (h : kts ts = l) (i : Nat) : tx ts i = match l[i]? with | some k => k.2 | none => "" := by
  subst h
  unfold tx kts
  rw [List.getElem?_map]
  cases ts[i]? <;> rfl
theorem kts_isN {ts : List Tk} {l : List Kt} (h : kts ts = l) (i : Nat) : isN ts i = match l[i]? with | some k => decide (k.1 = "number") | none => false := by
  subst h
  unfold isN kts
  rw [List.getElem?_map]
  cases ts[i]? <;> rfl
theorem kts_len {ts : List Tk} {l : List Kt} (h : kts ts = l) : ts.length = l.length := by
  subst h
  exact (List.length_map _).symm
end K01

namespace K01
open PySem L2 YF YG
/-! ### reading back, whatever the pieces are -/
theorem fol_par : ((")" : Str)) ∈ fol ∧ flv ")" = -1 := by decide +kernel
def topF (e : Ex) : Int := if lev e = 3 then 3 else lev e + 1
theorem topF_ge (e : Ex) : lev e ≤ topF e := by
  unfold topF
  split <;> omega
/-- what the first piece is not -/
def HdK (l : List Kt) (L : Int) : Prop := ∃ k r, l = k :: r ∧ (7 ≤ L → k.2 ≠ "-") ∧ (3 ≤ L → k.2 ≠ "not")
/-- these pieces are read as e, where nothing that binds closer follows -/
def RdL (X : Tx) (e : Ex) (l : List Kt) : Prop := ∀ n mo pl q, 2 * dpE e ≤ n → mo + 2 * dpE e ≤ 20 → PAt X.ts pl l → q = pl + l.length → tx X.ts q ∈ fol → flv (tx X.ts q) < topF e → rA X n (levN e) mo pl e q
/-- these pieces are read as an atom -/
def RdA (X : Tx) (e : Ex) (l : List Kt) : Prop := ∀ n mo pl q, 2 * dpE e + 1 ≤ n → mo + 2 * dpE e + 1 ≤ 20 → PAt X.ts pl l → q = pl + l.length → tx X.ts q ∈ fol → r7 X n mo pl e q
def HdA (e : Ex) (l : List Kt) : Prop := ∃ k r, l = k :: r ∧ k.2 ≠ "-" ∧ k.2 ≠ "not" ∧ (isNum e = false → k.1 ≠ "number")
section
variable {X : Tx} {e : Ex} {l : List Kt}
theorem rl_down {n mo pl q L M : Nat} (hM : M ≤ L) (hL : L ≤ 7) (h : rl X n L mo pl e q) (f : tx X.ts q ∈ fol) (fl : flv (tx X.ts q) < (M : Int)) (n1 : 7 ≤ L → tx X.ts pl ≠ "-") (n2 : 3 ≤ L → tx X.ts pl ≠ "not") : rl X n M mo pl e q := by
  obtain ⟨k, rfl⟩ := Nat.exists_eq_add_of_le hM
  exact rl_to k hL h f fl n1 n2
theorem hd_tx {L : Nat} {pl : Nat} (h : HdK l L) (p : PAt X.ts pl l) : (7 ≤ L → tx X.ts pl ≠ "-") ∧ (3 ≤ L → tx X.ts pl ≠ "not") := by
  obtain ⟨k, r, rfl, h1, h2⟩ := h
  rw [p.txt]
  exact ⟨fun q => h1 (by omega), fun q => h2 (by omega)⟩
theorem ha_tx {pl : Nat} (h : HdA e l) (p : PAt X.ts pl l) : tx X.ts pl ≠ "-" ∧ tx X.ts pl ≠ "not" ∧ (isNum e = false → isN X.ts pl = false) := by
  obtain ⟨k, r, rfl, h1, h2, h3⟩ := h
  rw [p.txt, p.isn]
  exact ⟨h1, h2, fun q => decide_eq_false (h3 q)⟩
/-- the whole, down to the loosest level -/
theorem RdL.all (ih : RdL X e l) (hd : HdK l (lev e)) {n mo pl q : Nat} (hn : 2 * dpE e ≤ n) (hm : mo + 2 * dpE e ≤ 20) (p : PAt X.ts pl l) (hq : q = pl + l.length) (f : tx X.ts q ∈ fol) (g : flv (tx X.ts q) = -1) : r0 X n mo pl e q := by
  have lr := lev_rng e
  have le := levN_eq e
  have h := rA_fin (by omega) (ih n mo pl q hn hm p hq f (by rw [g]; have := topF_ge e; omega)) f (by rw [g]; omega)
  rw [← le] at hd
  have hd2 := hd_tx hd p
  exact rl_down (M := 0) (by omega) (by omega) h f (by rw [g]; decide) hd2.1 hd2.2
/-- in parentheses: an atom -/
theorem RdL.par (ih : RdL X e l) (hd : HdK l (lev e)) : RdA X e (kLp :: (l ++ [kRp])) := by
  intro n mo pl q hn hm p hq f
  obtain ⟨n', rfl⟩ : ∃ n', n = n' + 1 := ⟨n - 1, by omega⟩
  have t0 : tx X.ts pl = "(" := p.txt
  have i0 : isN X.ts pl = false := p.isn
  have pa := p.tail.left
  have t1 : tx X.ts (pl + 1 + l.length) = ")" := p.tail.right.txt
  have h0 := ih.all hd (n := n') (mo := mo + 1) (by omega) (by omega) pa rfl (by rw [t1]; exact fol_par.1) (by rw [t1]; exact fol_par.2)
  have eq : q = pl + 1 + l.length + 1 := by rw [hq]; simp; omega
  exact .inr (.inl ⟨i0, t0, by omega, _, h0, t1, eq⟩)
theorem par_prn (ih : RdL X e l) (hd : HdK l (lev e)) {n mo pl q : Nat} (hn : 2 * dpE e + 1 ≤ n) (hm : mo + 2 * dpE e + 1 ≤ 20) (p : PAt X.ts pl (kLp :: (l ++ [kRp]))) (hq : q = pl + l.length + 2) : tx X.ts pl = "(" ∧ isN X.ts pl = false ∧ Prn X (LE X n).ex mo pl e q := by
  obtain ⟨n', rfl⟩ : ∃ n', n = n' + 1 := ⟨n - 1, by omega⟩
  have pa := p.tail.left
  have t1 : tx X.ts (pl + 1 + l.length) = ")" := p.tail.right.txt
  have h0 := ih.all hd (n := n') (mo := mo + 1) (by omega) (by omega) pa rfl (by rw [t1]; exact fol_par.1) (by rw [t1]; exact fol_par.2)
  exact ⟨p.txt, p.isn, by omega, _, h0, t1, by omega⟩
theorem hd_par : HdA e (kLp :: (l ++ [kRp])) := ⟨_, _, rfl, by decide, by decide, fun _ => by decide⟩
/-- an atom's pieces, at any level -/
theorem RdA.at (ih : RdA X e l) (hd : HdA e l) {M : Nat} (hM : M ≤ 7) {n mo pl q : Nat} (hn : 2 * dpE e + 1 ≤ n) (hm : mo + 2 * dpE e + 1 ≤ 20) (p : PAt X.ts pl l) (hq : q = pl + l.length) (f : tx X.ts q ∈ fol) (fl : flv (tx X.ts q) < (M : Int)) : rl X n M mo pl e q := by
  have t := ha_tx hd p
  exact rl_down (L := 7) hM (by omega) (ih n mo pl q hn hm p hq f) f fl (fun _ => t.1) fun _ => t.2.1
end
theorem num_at {ts : List Tk} {pl : Nat} {m : Int} {r : List Kt} (h0 : 0 ≤ m) (h : InR m) (p : PAt ts pl (("number", numT m) :: r)) : NumAt ts pl m := by
  have hb : InR m := h
  unfold InR at hb
  refine ⟨p.isn, ?_, ?_⟩
  · rw [p.txt]
    have := (num_len h h0).2
    show (numT m).length ≤ 640
    omega
  · rw [p.txt]
    exact PySem.W.KIN.num_reads h0 (by omega)
section
variable {X : Tx}
theorem rd_numA {m : Int} (h0 : 0 ≤ m) (h : InR m) : RdA X (.num m) [("number", numT m)] := by
  intro n mo pl q hn hm p hq f
  exact .inl ⟨m, num_at h0 h p, rfl, hq⟩
theorem rd_num {m : Int} (h : InR m) : RdL X (.num m) (numK m) := by
  intro n mo pl q hn hm p hq f fl
  unfold numK at p hq
  by_cases z : m < 0
  · rw [if_pos z] at p hq
    have lN : levN (.num m) = 6 := by unfold levN; rw [lev_num, if_pos z]; rfl
    rw [lN]
    have hb : InR (-m) := by unfold InR; have : InR m := h; unfold InR at this; omega
    exact .inr (.inl ⟨p.txt, -m, num_at (by omega) hb p.tail, by rw [Int.neg_neg], hq⟩)
  · rw [if_neg z] at p hq
    have lN : levN (.num m) = 7 := by unfold levN; rw [lev_num, if_neg z]; rfl
    rw [lN]
    exact .inl ⟨m, num_at (by omega) h p, rfl, hq⟩
theorem fol_lp : ("(" : Str) ∉ fol := by decide +kernel
theorem rd_loc {z : Str} (h : NameOk z) (hv : z ∈ X.vs) : RdL X (.var "local" (.str z)) [("word", z)] := by
  intro n mo pl q hn hm p hq f _
  have t : tx X.ts pl = z := p.txt
  refine .inr (.inr (.inl ⟨p.isn, by rw [t]; exact (name_ne h).2.2, by rw [t]; exact h, by rw [t]; exact hv, fun e => ?_, by rw [t], hq⟩))
  have hq : q = pl + 1 := hq
  rw [hq, e] at f
  exact fol_lp f
theorem rd_cell0 {z : Str} (h : NameOk z) (hc : z ∈ X.cs) (hv : z ∉ X.vs) (ib : X.ib = true) : RdL X (.cell z (.num 0)) [("word", z)] := by
  intro n mo pl q hn hm p hq f _
  have t : tx X.ts pl = z := p.txt
  refine .inr (.inr (.inr ⟨p.isn, by rw [t]; exact (name_ne h).2.2, by rw [t]; exact h, by rw [t]; exact hc, by rw [t]; exact hv, ib, .num 0, .inr ⟨fun e => ?_, rfl, hq⟩, by rw [t]⟩))
  have hq : q = pl + 1 := hq
  rw [hq, e] at f
  exact fol_lp f
theorem rd_cell {z : Str} {i : Ex} {l : List Kt} (h : NameOk z) (hc : z ∈ X.cs) (hv : z ∉ X.vs) (ib : X.ib = true) (ih : RdL X i l) (hd : HdK l (lev i)) : RdL X (.cell z i) (("word", z) :: kLp :: (l ++ [kRp])) := by
  intro n mo pl q hn hm p hq f _
  have dd : dpE (.cell z i) = dpE i + 1 := rfl
  have t : tx X.ts pl = z := p.txt
  obtain ⟨t1, i1, h1⟩ := par_prn (q := q) ih hd (n := n) (mo := mo) (by omega) (by omega) p.tail (by rw [hq]; simp; omega)
  exact .inr (.inr (.inr ⟨p.isn, by rw [t]; exact (name_ne h).2.2, by rw [t]; exact h, by rw [t]; exact hc, by rw [t]; exact hv, ib, i, .inl ⟨t1, h1⟩, by rw [t]⟩))
theorem RdL.toA {e : Ex} {l : List Kt} (h7 : lev e = 7) (h : RdL X e l) : RdA X e l := fun n mo pl q hn hm p hq f => by
  have hh := h n mo pl q (by omega) (by omega) p hq f (by
    have := (fl_max _ f).1
    unfold topF
    rw [h7, if_neg (by decide)]
    omega)
  have e7 : levN e = 7 := by unfold levN; rw [h7]; rfl
  rw [e7] at hh
  exact hh
theorem rd_not {a : Ex} {l : List Kt} (ha : RdA X a l) (hd : HdA a l) : RdL X (.one "not" a) (kNo :: l) := by
  intro n mo pl q hn hm p hq f fl
  have dd : dpE (.one "not" a) = dpE a + 1 := rfl
  obtain ⟨n', rfl⟩ : ∃ n', n = n' + 1 := ⟨n - 1, by omega⟩
  have lN : levN (.one "not" a) = 2 := rfl
  rw [lN]
  have fl : flv (tx X.ts q) < 3 := fl
  exact .inr ⟨p.txt, by omega, a, ha.at hd (M := 2) (n := n') (by omega) (by omega) (by omega) p.tail (by rw [hq]; simp; omega) f (by have := (fl_max _ f).2; omega), rfl⟩
theorem rd_neg {a : Ex} {l : List Kt} (ha : RdA X a l) (hd : HdA a l) (hn : isNum a = false ∨ ∃ r, l = kLp :: r) : RdL X (.one "negative" a) (kMi :: l) := by
  intro n mo pl q hn' hm p hq f fl
  have dd : dpE (.one "negative" a) = dpE a + 1 := rfl
  obtain ⟨n', rfl⟩ : ∃ n', n = n' + 1 := ⟨n - 1, by omega⟩
  have lN : levN (.one "negative" a) = 6 := rfl
  rw [lN]
  have i0 : isN X.ts (pl + 1) = false := by
    rcases hn with hn | ⟨r, rfl⟩
    · exact (ha_tx hd p.tail).2.2 hn
    · exact p.tail.isn
  exact .inr (.inr ⟨p.txt, i0, by omega, a, ha.at hd (M := 6) (n := n') (by omega) (by omega) (by omega) p.tail (by rw [hq]; simp; omega) f (by have := (fl_max _ f).1; omega), rfl⟩)
theorem rd_two {w : Str} {a b : Ex} {la lb : List Kt} (hw : w ∈ Ex.words2) (ra : RdA X a la) (ha : HdA a la) (rb : RdA X b lb) (hb : HdA b lb) : RdL X (.two w a b) (la ++ (opK w :: lb)) := by
  intro n mo pl q hn hm p hq f fl
  have dd : dpE (.two w a b) = max (dpE a) (dpE b) + 1 := rfl
  have da := Nat.le_max_left (dpE a) (dpE b)
  have db := Nat.le_max_right (dpE a) (dpE b)
  have pr := p.right
  have t1 := pr.txt
  have eq : q = pl + la.length + 1 + lb.length := by rw [hq]; simp; omega
  have go : ∀ {L : Nat} {ops : List (Str × Str)}, lvI w = L → L ≤ 5 → L ≠ 3 → (opK w).2 ∈ fol → flv (opK w).2 = L → ((opK w).2, w) ∈ ops → Opn X ops (rl X n (L + 1)) mo pl (.two w a b) q := fun {L ops} hl hL h3 hf hv ho => by
    have lv : lev (.two w a b) = (L : Int) := hl
    have tf : flv (tx X.ts q) < L + 1 := by
      unfold topF at fl
      rw [lv, if_neg (by omega)] at fl
      exact fl
    exact .step (p1 := pl + la.length) (.base (ra.at ha (M := L + 1) (by omega) (by omega) (by omega) p.left rfl (by rw [t1]; exact hf) (by rw [t1, hv]; push_cast; omega))) (by rw [t1]; exact hf) (by rw [t1]; exact ho) (rb.at hb (M := L + 1) (by omega) (by omega) (by omega) pr.tail eq f (by push_cast; exact tf))
  simp only [Ex.words2, List.mem_cons, List.not_mem_nil, or_false] at hw
  have cmp : lvI w = 3 → (opK w).2 ∈ fol → flv (opK w).2 = 3 → ((opK w).2, w) ∈ opCmp → swp (opK w).2 = false → rl X n 3 mo pl (.two w a b) q := fun hl c1 c2 c3 c4 => by
    have lv : lev (.two w a b) = 3 := hl
    have tf : topF (.two w a b) = 3 := by unfold topF; rw [if_pos lv]
    rw [tf] at fl
    exact ⟨a, pl + la.length, ra.at ha (M := 4) (by omega) (by omega) (by omega) p.left rfl (by rw [t1]; exact c1) (by rw [t1, c2]; decide), by rw [t1]; exact c1, .inr ⟨w, b, by rw [t1]; exact c3, rb.at hb (M := 4) (by omega) (by omega) (by omega) pr.tail eq f (by push_cast; omega), by rw [t1, c4]; rfl⟩⟩
  rcases hw with rfl | rfl | rfl | rfl | rfl | rfl | rfl | rfl | rfl | rfl
  · exact go (L := 4) (ops := opSum) rfl (by decide) (by decide) (by decide +kernel) (by decide +kernel) (by decide)
  · exact go (L := 4) (ops := opSum) rfl (by decide) (by decide) (by decide +kernel) (by decide +kernel) (by decide)
  · exact go (L := 5) (ops := opPrd) rfl (by decide) (by decide) (by decide +kernel) (by decide +kernel) (by decide)
  · exact go (L := 5) (ops := opPrd) rfl (by decide) (by decide) (by decide +kernel) (by decide +kernel) (by decide)
  · exact go (L := 5) (ops := opPrd) rfl (by decide) (by decide) (by decide +kernel) (by decide +kernel) (by decide)
  · exact cmp rfl (by decide +kernel) (by decide +kernel) (by decide) (by decide +kernel)
  · exact cmp rfl (by decide +kernel) (by decide +kernel) (by decide) (by decide +kernel)
  · exact cmp rfl (by decide +kernel) (by decide +kernel) (by decide) (by decide +kernel)
  · exact go (L := 1) (ops := [("and", "and")]) rfl (by decide) (by decide) (by decide +kernel) (by decide +kernel) (by decide)
  · exact go (L := 0) (ops := [("or", "or")]) rfl (by decide) (by decide) (by decide +kernel) (by decide +kernel) (by decide)
/-- with the sides exchanged -/
def gtK (w : Str) : Kt := ("sign", if w = "less" then ">" else ">=")
theorem rd_gt {w : Str} {a b : Ex} {la lb : List Kt} (hw : w = "less" ∨ w = "atmost") (ra : RdA X a la) (ha : HdA a la) (rb : RdA X b lb) (hb : HdA b lb) : RdL X (.two w a b) (lb ++ (gtK w :: la)) := by
  intro n mo pl q hn hm p hq f fl
  have dd : dpE (.two w a b) = max (dpE a) (dpE b) + 1 := rfl
  have da := Nat.le_max_left (dpE a) (dpE b)
  have db := Nat.le_max_right (dpE a) (dpE b)
  have pr := p.right
  have t1 := pr.txt
  have eq : q = pl + lb.length + 1 + la.length := by rw [hq]; simp; omega
  have c : lvI w = 3 ∧ (gtK w).2 ∈ fol ∧ flv (gtK w).2 = 3 ∧ ((gtK w).2, w) ∈ opCmp ∧ swp (gtK w).2 = true := by
    rcases hw with rfl | rfl <;> decide +kernel
  have lv : lev (.two w a b) = 3 := c.1
  have tf : topF (.two w a b) = 3 := by unfold topF; rw [if_pos lv]
  rw [tf] at fl
  have lN : levN (.two w a b) = 3 := by unfold levN; rw [lv]; rfl
  rw [lN]
  exact ⟨b, pl + lb.length, rb.at hb (M := 4) (by omega) (by omega) (by omega) p.left rfl (by rw [t1]; exact c.2.1) (by rw [t1, c.2.2.1]; decide), by rw [t1]; exact c.2.1, .inr ⟨w, a, by rw [t1]; exact c.2.2.2.1, ra.at ha (M := 4) (by omega) (by omega) (by omega) pr.tail eq f (by push_cast; omega), by rw [t1, c.2.2.2.2]; rfl⟩⟩
end
end K01

namespace K01
open PySem L2 YF YG
/-! ### texts of expressions -/
def NoNl (z : Str) : Prop := 10 ∉ cs z
theorem nl_app {a b : Str} (h : NoNl a) (k : NoNl b) : NoNl (a ++ b) := fun m => by
  rw [cs_app] at m
  rcases List.mem_append.mp m with m | m
  · exact h m
  · exact k m
theorem nl_let {z : Str} (h : ∀ c ∈ cs z, inS lets c = true) : NoNl z := fun m => absurd (h 10 m) (by decide +kernel)
theorem nl_num {n : Int} : NoNl (Str.ofString (toString n)) := by
  by_cases z : n < 0
  · rw [num_neg z]
    exact nl_app (by unfold NoNl; decide +kernel) fun m => absurd (num_ch (by omega) 10 m) (by decide +kernel)
  · exact fun m => absurd (num_ch (n := n) (by omega) 10 m) (by decide +kernel)
theorem nl_sp {s : Str} {n : Nat} (e : cs s = List.replicate n 32) : NoNl s := fun m => by
  rw [e] at m
  have := (List.mem_replicate.mp m).2
  omega
theorem nl_sg : ∀ w ∈ Ex.words2, NoNl (sg w) := by
  unfold NoNl
  decide +kernel
theorem len_sp {s : Str} {n : Nat} (e : cs s = List.replicate n 32) : s.length = n := by rw [len_cs, e, List.length_replicate]
theorem len_sg : ∀ w ∈ Ex.words2, (sg w).length ≤ 6 := by decide +kernel
def HdE (e : Ex) (l : List Kt) : Prop := ∃ k r, l = k :: r ∧ (7 ≤ lev e → k.2 ≠ "-") ∧ (3 ≤ lev e → k.2 ≠ "not") ∧ (7 ≤ lev e → isNum e = false → k.1 ≠ "number")
theorem HdE.k {e : Ex} {l : List Kt} (h : HdE e l) : HdK l (lev e) := by
  obtain ⟨k, r, e1, h1, h2, _⟩ := h
  exact ⟨k, r, e1, h1, h2⟩
theorem HdE.a {e : Ex} {l : List Kt} (h : HdE e l) (h7 : lev e = 7) : HdA e l := by
  obtain ⟨k, r, e1, h1, h2, h3⟩ := h
  exact ⟨k, r, e1, h1 (by omega), h2 (by omega), h3 (by omega)⟩
/-- z is a text of e, in the locals vs and the cells ks -/
structure TxE (vs ks : List Str) (e : Ex) (z : Str) (l : List Kt) : Prop where
  lx : LexF z l
  ne : z ≠ ""
  rd : ∀ X : Tx, X.vs = vs → X.cs = ks → X.ib = true → RdL X e l
  hd : HdE e l
  nl : NoNl z
  ln : z.length + 13 ≤ 25 * 2 ^ dpE e
  f61 : fits ">" z
/-- a text that may stand beside any operator -/
structure TxA (vs ks : List Str) (e : Ex) (z : Str) (l : List Kt) : Prop where
  lx : LexF z l
  ne : z ≠ ""
  rd : ∀ X : Tx, X.vs = vs → X.cs = ks → X.ib = true → RdA X e l
  hd : HdA e l
  nl : NoNl z
  ln : z.length + 10 ≤ 25 * 2 ^ dpE e
  f61 : fits ">" z
theorem app_ne {a b : Str} (h : a ≠ "") : a ++ b ≠ "" := fun e => h (by
  have := congrArg cs e
  rw [cs_app] at this
  exact str_ext (List.append_eq_nil_iff.mp this).1)
theorem f61_of {z : Str} {c : Nat} (h : (cs z).head? = some c) (n : c ≠ 61) : fits ">" z := fun d hd => by
  rw [h] at hd
  cases Option.some.inj hd
  have h1 : inS lets 62 = false := by decide +kernel
  have h2 : inS digs 62 = false := by decide +kernel
  unfold growsC
  rw [show (cs ">").getLast? = some 62 from by decide +kernel]
  simp [h1, h2, n]
theorem f61_good {k t : Str} (g : Good k t) (h : ∀ c ∈ cs t, inS lets c = true ∨ inS digs c = true) : fits ">" t := by
  cases q : cs t with
  | nil => exact absurd (str_ext (by rw [q]; rfl)) (good_ne g)
  | cons c r =>
    refine f61_of (by rw [q]; rfl) fun z => ?_
    subst z
    rcases h 61 (by rw [q]; exact List.mem_cons_self) with h | h
    · exact absurd h (by decide +kernel)
    · exact absurd h (by decide +kernel)
section
variable {vs ks : List Str} {e : Ex} {z : Str} {l : List Kt}
theorem TxE.toA (h : TxE vs ks e z l) (h7 : lev e = 7) : TxA vs ks e z l := ⟨h.lx, h.ne, fun X h1 h2 h3 => (h.rd X h1 h2 h3).toA h7, h.hd.a h7, h.nl, by have := h.ln; omega, h.f61⟩
/-- in parentheses, with at most one space within -/
theorem TxE.par (h : TxE vs ks e z l) {s1 s2 : Str} {n1 n2 : Nat} (e1 : cs s1 = List.replicate n1 32) (e2 : cs s2 = List.replicate n2 32) (hn : n1 + n2 ≤ 1) : TxA vs ks e ("(" ++ (s1 ++ (z ++ (s2 ++ ")")))) (kLp :: (l ++ [kRp])) := by
  refine ⟨lf_par e1 e2 h.ne h.lx, app_ne (by decide), fun X h1 h2 h3 => (h.rd X h1 h2 h3).par h.hd.k, hd_par, nl_app (by unfold NoNl; decide +kernel) (nl_app (nl_sp e1) (nl_app h.nl (nl_app (nl_sp e2) (by unfold NoNl; decide +kernel)))), ?_, f61_of (c := 40) (by rw [cs_app]; rfl) (by decide)⟩
  have := h.ln
  simp only [PySem.Str.length_append, len_sp e1, len_sp e2]
  show 1 + (n1 + (z.length + (n2 + 1))) + 10 ≤ _
  omega
theorem tE_num {m : Int} (h : InR m) : TxE vs ks (.num m) (Str.ofString (toString m)) (numK m) := by
  have hb : InR m := h
  unfold InR at hb
  by_cases z : m < 0
  · have hb' : InR (-m) := by unfold InR; omega
    have hg := num_good hb' (by omega)
    have ek : numK m = [kMi, ((("number" : Str), numT (-m)) : Kt)] := by unfold numK; rw [if_pos z]
    refine ⟨?_, ?_, fun X _ _ _ => rd_num h, ?_, nl_num, ?_, ?_⟩
    · rw [num_neg z, ek]
      exact lf_good (good_signs "-" (by decide)) (lf_one hg) (free_fits free_mi)
    · rw [num_neg z]
      exact app_ne (by decide)
    · rw [ek]
      exact ⟨_, _, rfl, fun q => by rw [lev_num, if_pos z] at q; exact absurd q (by decide), fun _ => by decide, fun _ q => nomatch q⟩
    · rw [num_neg z, PySem.Str.length_append]
      have := (num_len hb' (by omega)).2
      show 1 + (numT (-m)).length + 13 ≤ 25 * 1
      omega
    · rw [num_neg z]
      exact f61_of (c := 45) (by rw [cs_app]; rfl) (by decide)
  · have hg := num_good h (by omega)
    have ek : numK m = [((("number" : Str), numT m) : Kt)] := by unfold numK; rw [if_neg z]
    refine ⟨?_, good_ne hg, fun X _ _ _ => rd_num h, ?_, nl_num, ?_, f61_good hg fun c hc => .inr (num_ch (by omega) c hc)⟩
    · rw [ek]
      exact lf_one hg
    · rw [ek]
      exact ⟨_, _, rfl, fun _ => (num_ne (by omega)).2, fun _ => (num_ne (by omega)).1, fun _ q => nomatch q⟩
    · have := (num_len h (by omega)).2
      show (numT m).length + 13 ≤ 25 * 1
      omega
theorem tE_var {x : Str} (h : NameOk x) (hv : x ∈ vs) : TxE vs ks (.var "local" (.str x)) x [("word", x)] := by
  have hg := name_good h
  refine ⟨lf_one hg, good_ne hg, fun X h1 _ _ => rd_loc h (by rw [h1]; exact hv), ⟨_, _, rfl, fun _ => (name_ne h).2.1, fun _ => (name_ne h).1, fun _ _ => (by decide : ("word" : Str) ≠ "number")⟩, nl_let h.2.2.2, ?_, f61_good hg fun c hc => .inl (h.2.2.2 c hc)⟩
  have := h.2.1
  show x.length + 13 ≤ 25 * 1
  omega
theorem tE_cell0 {x : Str} (h : NameOk x) (hc : x ∈ ks) (hv : x ∉ vs) : TxE vs ks (.cell x (.num 0)) x [("word", x)] := by
  have hg := name_good h
  refine ⟨lf_one hg, good_ne hg, fun X h1 h2 h3 => rd_cell0 h (by rw [h2]; exact hc) (by rw [h1]; exact hv) h3, ⟨_, _, rfl, fun _ => (name_ne h).2.1, fun _ => (name_ne h).1, fun _ _ => (by decide : ("word" : Str) ≠ "number")⟩, nl_let h.2.2.2, ?_, f61_good hg fun c hc => .inl (h.2.2.2 c hc)⟩
  have := h.2.1
  show x.length + 13 ≤ 25 * 2
  omega
/-- a cell with an index in parentheses, with spaces ahead of them and within -/
theorem tE_cell {x : Str} {i : Ex} {zi : Str} {li : List Kt} (h : NameOk x) (hc : x ∈ ks) (hv : x ∉ vs) (ti : TxE vs ks i zi li) {s1 s2 : Str} {n1 n2 : Nat} (e1 : cs s1 = List.replicate n1 32) (e2 : cs s2 = List.replicate n2 32) (hn : n1 + n2 ≤ 2) : TxE vs ks (.cell x i) (x ++ (s1 ++ ("(" ++ (zi ++ (s2 ++ ")"))))) (("word", x) :: kLp :: (li ++ [kRp])) := by
  have hg := name_good h
  have lp : LexF ("(" ++ (zi ++ (s2 ++ ")"))) (kLp :: (li ++ [kRp])) := lf_good (good_signs "(" (by decide)) (lf_app ti.lx ti.ne (lf_sp e2 (lf_one (good_signs ")" (by decide)))) (sp_sep e2 (.inr sep_rp))) (free_fits free_lp)
  refine ⟨lf_good hg (lf_sp e1 lp) (sp_sep e1 (.inr (sep_lp _)) x), app_ne (good_ne hg), fun X h1 h2 h3 => rd_cell h (by rw [h2]; exact hc) (by rw [h1]; exact hv) h3 (ti.rd X h1 h2 h3) ti.hd.k, ⟨_, _, rfl, fun _ => (name_ne h).2.1, fun _ => (name_ne h).1, fun _ _ => (by decide : ("word" : Str) ≠ "number")⟩, nl_app (nl_let h.2.2.2) (nl_app (nl_sp e1) (nl_app (by unfold NoNl; decide +kernel) (nl_app ti.nl (nl_app (nl_sp e2) (by unfold NoNl; decide +kernel))))), ?_, app_fits (good_ne hg) (f61_good hg fun c hc => .inl (h.2.2.2 c hc))⟩
  have h1 := h.2.1
  have h2 := ti.ln
  have dd : dpE (.cell x i) = dpE i + 1 := rfl
  have pp : 0 < 2 ^ dpE i := Nat.pos_of_ne_zero (by simp)
  rw [dd, Nat.pow_succ]
  simp only [PySem.Str.length_append, len_sp e1, len_sp e2]
  show x.length + (n1 + (1 + (zi.length + (n2 + 1)))) + 13 ≤ _
  omega
theorem tE_not {a : Ex} (h : TxA vs ks a z l) {s : Str} {n : Nat} (e1 : cs s = List.replicate n 32) (h0 : 0 < n) (hn : n ≤ 2) : TxE vs ks (.one "not" a) ("not" ++ (s ++ z)) (kNo :: l) := by
  refine ⟨lf_good good_not (lf_sp e1 h.lx) (sp_sep e1 (.inl h0) _), app_ne (by decide), fun X h1 h2 h3 => rd_not (h.rd X h1 h2 h3) h.hd, ⟨_, _, rfl, fun q => absurd (show (7 : Int) ≤ 2 from q) (by decide), fun q => absurd (show (3 : Int) ≤ 2 from q) (by decide), fun q => absurd (show (7 : Int) ≤ 2 from q) (by decide)⟩, nl_app (by unfold NoNl; decide +kernel) (nl_app (nl_sp e1) h.nl), ?_, f61_of (c := 110) (by rw [cs_app]; rfl) (by decide)⟩
  have h2 := h.ln
  have dd : dpE (.one "not" a) = dpE a + 1 := rfl
  have pp : 0 < 2 ^ dpE a := Nat.pos_of_ne_zero (by simp)
  rw [dd, Nat.pow_succ]
  simp only [PySem.Str.length_append, len_sp e1]
  show 3 + (n + z.length) + 13 ≤ _
  omega
theorem tE_neg {a : Ex} (h : TxA vs ks a z l) {s : Str} {n : Nat} (e1 : cs s = List.replicate n 32) (hn : n ≤ 2) (hk : isNum a = false ∨ ∃ r, l = kLp :: r) : TxE vs ks (.one "negative" a) ("-" ++ (s ++ z)) (kMi :: l) := by
  refine ⟨lf_good (good_signs "-" (by decide)) (lf_sp e1 h.lx) (free_fits free_mi), app_ne (by decide), fun X h1 h2 h3 => rd_neg (h.rd X h1 h2 h3) h.hd hk, ⟨_, _, rfl, fun q => absurd (show (7 : Int) ≤ 6 from q) (by decide), fun _ => by decide, fun q => absurd (show (7 : Int) ≤ 6 from q) (by decide)⟩, nl_app (by unfold NoNl; decide +kernel) (nl_app (nl_sp e1) h.nl), ?_, f61_of (c := 45) (by rw [cs_app]; rfl) (by decide)⟩
  have h2 := h.ln
  have dd : dpE (.one "negative" a) = dpE a + 1 := rfl
  have pp : 0 < 2 ^ dpE a := Nat.pos_of_ne_zero (by simp)
  rw [dd, Nat.pow_succ]
  simp only [PySem.Str.length_append, len_sp e1]
  show 1 + (n + z.length) + 13 ≤ _
  omega
theorem lev_two {w : Str} (hw : w ∈ Ex.words2) : lvI w < 6 := by
  simp only [Ex.words2, List.mem_cons, List.not_mem_nil, or_false] at hw
  rcases hw with rfl | rfl | rfl | rfl | rfl | rfl | rfl | rfl | rfl | rfl <;> decide
theorem hd_two {w : Str} (hw : w ∈ Ex.words2) {a b c : Ex} {la lb : List Kt} (h : HdA c la) : HdE (.two w a b) (la ++ lb) := by
  obtain ⟨k, r, rfl, h1, h2, h3⟩ := h
  have := lev_two hw
  exact ⟨k, r ++ lb, rfl, fun _ => h1, fun _ => h2, fun q => absurd (show 7 ≤ lvI w from q) (by omega)⟩
theorem pow_max (a b : Nat) : 2 ^ a + 2 ^ b ≤ 2 ^ (max a b + 1) := by
  have h1 : 2 ^ a ≤ 2 ^ max a b := Nat.pow_le_pow_right (by decide) (Nat.le_max_left _ _)
  have h2 : 2 ^ b ≤ 2 ^ max a b := Nat.pow_le_pow_right (by decide) (Nat.le_max_right _ _)
  rw [Nat.pow_succ]
  omega
theorem tE_two {w : Str} (hw : w ∈ Ex.words2) {a b : Ex} {za zb : Str} {la lb : List Kt} (ha : TxA vs ks a za la) (hb : TxA vs ks b zb lb) {s : Str} {n : Nat} (e1 : cs s = List.replicate n 32) (hn : n ≤ 1) : TxE vs ks (.two w a b) (za ++ (s ++ (sg w ++ zb))) (la ++ (opK w :: lb)) := by
  obtain ⟨g, eg⟩ := op_good w hw
  have sp1 : cs (" " : Str) = List.replicate 1 32 := by decide +kernel
  have e2 : sg w ++ zb = " " ++ ((opK w).2 ++ (" " ++ zb)) := by rw [eg, app_as, app_as]
  have lo : LexF (sg w ++ zb) (opK w :: lb) := by
    rw [e2]
    exact lf_sp sp1 (lf_good g (lf_sp sp1 hb.lx) (sp_sep sp1 (.inl (by decide)) _))
  have so : Sep (sg w ++ zb) := by rw [e2]; exact sp_sep sp1 (.inl (by decide))
  refine ⟨lf_app ha.lx ha.ne (lf_sp e1 lo) (sp_sep e1 (.inr so)), app_ne ha.ne, fun X h1 h2 h3 => rd_two hw (ha.rd X h1 h2 h3) ha.hd (hb.rd X h1 h2 h3) hb.hd, hd_two hw ha.hd, nl_app ha.nl (nl_app (nl_sp e1) (nl_app (nl_sg w hw) hb.nl)), ?_, app_fits ha.ne ha.f61⟩
  have h1 := ha.ln
  have h2 := hb.ln
  have h3 := len_sg w hw
  have h4 := pow_max (dpE a) (dpE b)
  have dd : dpE (.two w a b) = max (dpE a) (dpE b) + 1 := rfl
  rw [dd]
  simp only [PySem.Str.length_append, len_sp e1]
  omega
def gtT (w : Str) : Str := if w = "less" then ">" else " >="
theorem tE_gt {w : Str} (hw : w = "less" ∨ w = "atmost") {a b : Ex} {za zb : Str} {la lb : List Kt} (ha : TxA vs ks a za la) (hb : TxA vs ks b zb lb) : TxE vs ks (.two w a b) (zb ++ (gtT w ++ za)) (lb ++ (gtK w :: la)) := by
  have hw2 : w ∈ Ex.words2 := by rcases hw with rfl | rfl <;> decide
  have g : Good (gtK w).1 (gtK w).2 := by rcases hw with rfl | rfl <;> exact good_signs _ (by decide)
  have ft : fits (gtK w).2 za := by
    rcases hw with rfl | rfl
    · exact ha.f61
    · exact free_fits (free_of (e := 61) rfl (by decide +kernel) (by decide +kernel) ⟨by decide, by decide⟩)
  have lg := lf_good g ha.lx ft
  have sg1 : Sep ((gtK w).2 ++ za) := by
    rcases hw with rfl | rfl
    · exact sep_of (c := 62) (by rw [cs_app]; rfl) (by decide +kernel) (by decide +kernel) (by decide)
    · exact sep_of (c := 62) (by rw [cs_app]; rfl) (by decide +kernel) (by decide +kernel) (by decide)
  have sp1 : cs (" " : Str) = List.replicate 1 32 := by decide +kernel
  have lo : LexF (gtT w ++ za) (gtK w :: la) ∧ Sep (gtT w ++ za) := by
    rcases hw with rfl | rfl
    · exact ⟨lg, sg1⟩
    · have e2 : gtT "atmost" ++ za = " " ++ ((gtK "atmost").2 ++ za) := by rw [← app_as]; rfl
      rw [e2]
      exact ⟨lf_sp sp1 lg, sp_sep sp1 (.inl (by decide))⟩
  obtain ⟨lo, so⟩ := lo
  refine ⟨lf_app hb.lx hb.ne lo so, app_ne hb.ne, fun X h1 h2 h3 => rd_gt hw (ha.rd X h1 h2 h3) ha.hd (hb.rd X h1 h2 h3) hb.hd, hd_two hw2 hb.hd, nl_app hb.nl (nl_app (by rcases hw with rfl | rfl <;> (unfold NoNl; decide +kernel)) ha.nl), ?_, app_fits hb.ne hb.f61⟩
  have h1 := ha.ln
  have h2 := hb.ln
  have h3 : (gtT w).length ≤ 3 := by rcases hw with rfl | rfl <;> decide
  have h4 := pow_max (dpE a) (dpE b)
  have dd : dpE (.two w a b) = max (dpE a) (dpE b) + 1 := rfl
  rw [dd]
  simp only [PySem.Str.length_append]
  omega
end
end K01

namespace K01
open PySem L2 YF YG
/-! ### the written form -/
def bxT (e : Ex) (z : Str) : Str := if lev e < 7 then "(" ++ z ++ ")" else z
def isZ0 : Ex → Bool
  | .num n => decide (n = 0)
  | _ => false
def ixT (i : Ex) (z : Str) : Str := if isZ0 i = true then "" else "(" ++ z ++ ")"
def wrT : Ex → Str
  | .num n => Str.ofString (toString n)
  | .var _ (.str x) => x
  | .var _ _ => ""
  | .cell x i => x ++ ixT i (wrT i)
  | .one w a => if w = "not" then "not " ++ bxT a (wrT a) else if isNum a = true then "-(" ++ wrT a ++ ")" else "-" ++ bxT a (wrT a)
  | .two w a b => bxT a (wrT a) ++ sg w ++ bxT b (wrT b)
section
variable {vs ks : List Str}
theorem nil_sp : cs ("" : Str) = List.replicate 0 32 := rfl
theorem nil_app (b : Str) : ("" : Str) ++ b = b := str_ext (by rw [cs_app]; rfl)
theorem tA_par {e : Ex} {z : Str} {l : List Kt} (h : TxE vs ks e z l) : TxA vs ks e ("(" ++ z ++ ")") (kLp :: (l ++ [kRp])) := by
  have := h.par (s1 := "") (s2 := "") nil_sp nil_sp (by decide)
  rw [nil_app, nil_app] at this
  rw [app_as]
  exact this
theorem tA_bx {e : Ex} {z : Str} {l : List Kt} (h : TxE vs ks e z l) : ∃ l', TxA vs ks e (bxT e z) l' ∧ (lev e < 7 → ∃ r, l' = kLp :: r) := by
  unfold bxT
  by_cases q : lev e < 7
  · rw [if_pos q]
    exact ⟨_, tA_par h, fun _ => ⟨_, rfl⟩⟩
  · rw [if_neg q]
    have := (lev_rng e).2
    exact ⟨_, h.toA (by omega), fun z => absurd z q⟩
theorem z0_eq {i : Ex} (h : isZ0 i = true) : i = .num 0 := by
  cases i with
  | num n => unfold isZ0 at h; rw [of_decide_eq_true h]
  | _ => cases h
theorem tE_wr : ∀ {e : Ex}, wfC vs ks e → ∃ l, TxE vs ks e (wrT e) l
  | .num n, h => ⟨_, tE_num h⟩
  | .var w x, ⟨hw, z, e, h, hv⟩ => by
    subst e
    subst hw
    exact ⟨_, tE_var h hv⟩
  | .cell x i, ⟨h, hc, hv, hi⟩ => by
    obtain ⟨li, ti⟩ := tE_wr hi
    unfold wrT ixT
    by_cases q : isZ0 i = true
    · rw [if_pos q, show x ++ ("" : Str) = x from str_ext (by rw [cs_app]; exact List.append_nil _)]
      have := z0_eq q
      subst this
      exact ⟨_, tE_cell0 h hc hv⟩
    · rw [if_neg q]
      have := tE_cell h hc hv ti (s1 := "") (s2 := "") nil_sp nil_sp (by decide)
      rw [nil_app, nil_app] at this
      rw [app_as]
      exact ⟨_, this⟩
  | .one w a, ⟨hw, ha⟩ => by
    obtain ⟨la, ta⟩ := tE_wr ha
    obtain ⟨l', tb, hb⟩ := tA_bx ta
    unfold wrT
    by_cases q : w = "not"
    · rw [if_pos q]
      subst q
      have := tE_not tb (s := " ") (n := 1) (by decide +kernel) (by decide) (by decide)
      rw [← app_as] at this
      exact ⟨_, this⟩
    · rw [if_neg q]
      have hw : w = "negative" := by
        simp only [Ex.words1, List.mem_cons, List.not_mem_nil, or_false] at hw
        exact hw.resolve_left q
      subst hw
      by_cases qn : isNum a = true
      · rw [if_pos qn]
        have := tE_neg (tA_par ta) (s := "") nil_sp (by decide) (.inr ⟨_, rfl⟩)
        rw [nil_app, ← app_as, ← app_as] at this
        exact ⟨_, this⟩
      · rw [if_neg qn]
        have := tE_neg tb (s := "") nil_sp (by decide) (.inl (by simpa using qn))
        rw [nil_app] at this
        exact ⟨_, this⟩
  | .two w a b, ⟨hw, ha, hb⟩ => by
    obtain ⟨la, ta⟩ := tE_wr ha
    obtain ⟨lb, tb⟩ := tE_wr hb
    obtain ⟨_, ta', _⟩ := tA_bx ta
    obtain ⟨_, tb', _⟩ := tA_bx tb
    have := tE_two hw ta' tb' (s := "") nil_sp (by decide)
    rw [nil_app, ← app_as] at this
    exact ⟨_, this⟩
end
/-! ### expressions compared -/
def pdE : Ex → PyData
  | .num n => .tuple [.str "number", .int n]
  | .var w (.str x) => .tuple [.str w, .str x]
  | .var w _ => .tuple [.str w]
  | .cell x i => .tuple [.str "cell", .str x, pdE i]
  | .one w a => .tuple [.str w, pdE a]
  | .two w a b => .tuple [.str w, pdE a, pdE b]
def zeroP : PyData := .tuple [.str "number", .int 0]
theorem strOk_let {z : Str} (h : ∀ c ∈ cs z, inS lets c = true) : PyData.strOk z = true := by
  have hl : ∀ c ∈ cs lets, c < 0x110000 := by decide +kernel
  unfold PyData.strOk
  rw [← Array.all_toList, List.all_eq_true]
  exact fun c hc => decide_eq_true (hl c (inS_mem (h c hc)))
theorem strOk_w2 : ∀ w ∈ Ex.words1 ++ Ex.words2 ++ (["number", "local", "cell"] : List Str), PyData.strOk w = true := by decide +kernel
section
variable {vs ks : List Str}
theorem pd_ok : ∀ {e : Ex}, wfC vs ks e → (pdE e).canLay0 = true
  | .num n, h => by
    have := strOk_w2 "number" (by decide)
    simp [pdE, PyData.canLay0, PyData.canLayAll0, this]
  | .var w x, ⟨hw, z, e, h, hv⟩ => by
    subst e
    subst hw
    have := strOk_w2 "local" (by decide)
    simp [pdE, PyData.canLay0, PyData.canLayAll0, this, strOk_let h.2.2.2]
  | .cell x i, ⟨h, hc, hv, hi⟩ => by
    have := strOk_w2 "cell" (by decide)
    simp [pdE, PyData.canLay0, PyData.canLayAll0, this, strOk_let h.2.2.2, pd_ok hi]
  | .one w a, ⟨hw, ha⟩ => by
    have := strOk_w2 w (List.mem_append_left _ (List.mem_append_left _ hw))
    simp [pdE, PyData.canLay0, PyData.canLayAll0, this, pd_ok ha]
  | .two w a b, ⟨hw, ha, hb⟩ => by
    have := strOk_w2 w (List.mem_append_left _ (List.mem_append_right _ hw))
    simp [pdE, PyData.canLay0, PyData.canLayAll0, this, pd_ok ha, pd_ok hb]
theorem pd_dep : ∀ {e : Ex}, wfC vs ks e → (pdE e).depth ≤ dpE e + 1
  | .num n, h => by simp [pdE, PyData.depth, PyData.depthAll]
  | .var w x, ⟨hw, z, e, h, hv⟩ => by
    subst e
    simp [pdE, PyData.depth, PyData.depthAll]
  | .cell x i, ⟨h, hc, hv, hi⟩ => by
    have := pd_dep hi
    simp only [pdE, PyData.depth, PyData.depthAll, dpE]
    omega
  | .one w a, ⟨hw, ha⟩ => by
    have := pd_dep ha
    simp only [pdE, PyData.depth, PyData.depthAll, dpE]
    omega
  | .two w a b, ⟨hw, ha, hb⟩ => by
    have := pd_dep ha
    have := pd_dep hb
    simp only [pdE, PyData.depth, PyData.depthAll, dpE]
    omega
theorem pd_shaped {e : Ex} (h : wfC vs ks e) (d : dpE e ≤ 10) : SeqAt.shaped (pdE e) = true := by
  have := pd_dep h
  unfold SeqAt.shaped
  rw [pd_ok h, decide_eq_true (by omega)]
  rfl
theorem pd_eqv {e : Ex} (h : wfC vs ks e) : PyData.eqv (pdE e) zeroP = isZ0 e := by
  cases e with
  | num n =>
    simp only [pdE, zeroP, PyData.eqv, PyData.eqvAll, isZ0, beq_self_eq_true, Bool.true_and, Bool.and_true]
    rw [Bool.eq_iff_iff]
    simp
  | var w x =>
    obtain ⟨hw, z, e, _⟩ := h
    subst e
    subst hw
    simp [pdE, zeroP, PyData.eqv, PyData.eqvAll, isZ0]
  | cell x i => simp [pdE, zeroP, PyData.eqv, PyData.eqvAll, isZ0]
  | one w a =>
    simp [pdE, zeroP, PyData.eqv, PyData.eqvAll, isZ0]
    exact fun q => absurd h.1 (by rw [q]; decide)
  | two w a b => simp [pdE, zeroP, PyData.eqv, PyData.eqvAll, isZ0]
theorem pd_dp {K : PySem.W.Frag} {H : Hp} : ∀ {e : Ex} {v : V}, wfC vs ks e → Rp K H e.d [v] → Dp K H v (pdE e)
  | .num n, v, h, r => by
    obtain ⟨a, xs, ea, h1, _, y1, ys, rfl, e2, y2, ys2, rfl, e3, e4⟩ := r
    cases ea
    simp only [Rp] at e2 e3 e4
    cases e2
    cases e3
    subst e4
    exact .tup h1 (.cons (.str _) (.cons (.int _) .nil))
  | .var w x, v, ⟨hw, z, e, h, hv⟩, r => by
    subst e
    obtain ⟨a, xs, ea, h1, _, y1, ys, rfl, e2, y2, ys2, rfl, e3, e4⟩ := r
    cases ea
    simp only [Rp] at e2 e3 e4
    cases e2
    cases e3
    subst e4
    exact .tup h1 (.cons (.str _) (.cons (.str _) .nil))
  | .cell x i, v, ⟨h, hc, hv, hi⟩, r => by
    obtain ⟨a, xs, ea, h1, _, y1, ys, rfl, e2, y2, ys2, rfl, e3, y3, ys3, rfl, e4, e5⟩ := r
    cases ea
    have e2 : [y1] = [V.str "cell"] := e2
    have e3 : [y2] = [V.str x] := e3
    have e5 : ys3 = [] := e5
    cases e2
    cases e3
    subst e5
    exact .tup h1 (.cons (.str _) (.cons (.str _) (.cons (pd_dp hi e4) .nil)))
  | .one w a, v, ⟨hw, ha⟩, r => by
    obtain ⟨b, xs, ea, h1, _, y1, ys, rfl, e2, y2, ys2, rfl, e3, e4⟩ := r
    cases ea
    have e2 : [y1] = [V.str w] := e2
    have e4 : ys2 = [] := e4
    cases e2
    subst e4
    exact .tup h1 (.cons (.str _) (.cons (pd_dp ha e3) .nil))
  | .two w a b, v, ⟨hw, ha, hb⟩, r => by
    obtain ⟨c, xs, ea, h1, _, y1, ys, rfl, e2, y2, ys2, rfl, e3, y3, ys3, rfl, e4, e5⟩ := r
    cases ea
    have e2 : [y1] = [V.str w] := e2
    have e5 : ys3 = [] := e5
    cases e2
    subst e5
    exact .tup h1 (.cons (.str _) (.cons (pd_dp ha e3) (.cons (pd_dp hb e4) .nil)))
/-- exp == ("number", 0) -/
theorem zero_un {K : PySem.W.Frag} {σ : L2.St} {H B : Hp} {ta : TE} {v : V} {e : Ex} {Q : VK} (ha : Te ta σ H v) (sB : Same B H) (r : Rp K B e.d [v]) (h : wfC vs ks e) (d : dpE e ≤ 10) (k : ∀ H', Same H H' → Q (.bl (isZ0 e)) H') : tOp (rEqD K) ta (tTup (tCons (tC (.str "number")) (tCons (tC (.int 0)) tNil))) σ H Q :=
  ha _ ((ta_cons te_c (ta_cons te_c ta_nil)) _ ⟨by show 2 ≤ sizeLine; decide, fun p hp => ⟨pdE e, zeroP, pd_dp h (Rp.mono (sB.trans (Same.upd hp)) r), .tup (SqT.of upd_same) (.cons (.str _) (.cons (.int _) .nil)), pd_shaped h d, by decide +kernel, by rw [pd_eqv h]; exact k _ (Same.upd hp)⟩⟩)
end
end K01

namespace K01
open PySem L2 YF YG
/-! ### the written form, written by the law -/
structure OkE (K : PySem.W.Frag) (H : Hp) (v : V) (e : Ex) (n : Nat) : Prop where
  rp : Rp K H e.d [v]
  wf : ∃ vs ks, wfC vs ks e
  dn : dpE e < n
  d9 : dpE e ≤ 9
theorem OkE.same {K : PySem.W.Frag} {H H' : Hp} {v : V} {e : Ex} {n : Nat} (o : OkE K H v e n) (s : Same H H') : OkE K H' v e n := ⟨Rp.mono s o.rp, o.wf, o.dn, o.d9⟩
def spWr (K : PySem.W.Frag) (n : Nat) (f : Ex → Str) : Sp := fun ws H Q _ => ∃ (v : V) (e : Ex), ws = [v] ∧ OkE K H v e n ∧ ∀ H', Same H H' → Q (.str (f e)) H'
theorem ifs_un {te : TE} {tu rest : TS} {D : Ends} {σ : L2.St} {H : Hp} (h : te σ H fun v H1 => ∃ b, v = .bl b ∧ (if b = true then tu { D with nx := rest D } σ H1 else rest D σ H1)) : tSeq (tIfS (tTest te) tu tNext) rest D σ H := h
theorem wr_small {vs ks : List Str} {e : Ex} (h : wfC vs ks e) (d : dpE e ≤ 9) : (wrT e).length + 100 ≤ sizeLine := by
  obtain ⟨l, t⟩ := tE_wr h
  have := t.ln
  have p : 2 ^ dpE e ≤ 2 ^ 9 := Nat.pow_le_pow_right (by decide) d
  rw [sizeLine_eq]
  omega
theorem bx_small {vs ks : List Str} {e : Ex} (h : wfC vs ks e) (d : dpE e ≤ 9) : (bxT e (wrT e)).length + 100 ≤ 16777216 ∧ (bxT e (wrT e)).length ≤ 100000 := by
  obtain ⟨l, t⟩ := tE_wr h
  obtain ⟨_, t2, _⟩ := tA_bx t
  have := t2.ln
  have p : 2 ^ dpE e ≤ 2 ^ 9 := Nat.pow_le_pow_right (by decide) d
  omega
/-- an expression's tuple: word and parts -/
theorem exT {K : PySem.W.Frag} {H : Hp} {v : V} : ∀ {e : Ex}, Rp K H e.d [v] → ∃ a xs, v = .ref a ∧ SqT K H a (.str e.word :: xs)
  | e, r => by
    obtain ⟨a, xs, ea, h1⟩ := ex_word r
    exact ⟨a, xs, ea, h1⟩
theorem or_un2 {t u : TT} {σ : L2.St} {H : Hp} {Q : Bool → Hp → Prop} (h : t σ H fun c H1 => if c = true then Q true H1 else u σ H1 Q) : tOr t u σ H Q := h
/-- sign, negative, not, or a number below 0 -/
theorem low_un {K : PySem.W.Frag} {E : XK} {σ : L2.St} {H : Hp} {i : Nat} {v : V} {e : Ex} {n : Nat} {Q : Bool → Hp → Prop} (hi : σ[i]? = some (some v)) (o : OkE K H v e n) (k : ∀ H', Same H H' → Q (decide (lev e < 7)) H') :
    tOr (tTest (tOp rNe (tCall spSg [] E (tCons (tOp (rIxT K) (tVar i) (tC (.int 0))) tNil)) (tC (.str "")))) (tOr (tTest (tOp (rIn K false) (tOp (rIxT K) (tVar i) (tC (.int 0))) (tLst (tCons (tC (.str "negative")) (tCons (tC (.str "not")) tNil))))) (tAnd (tTest (tOp rEq (tOp (rIxT K) (tVar i) (tC (.int 0))) (tC (.str "number")))) (tTest (tOp (rI0 fun i j => V.bl (decide (i < j))) (tOp (rIxT K) (tVar i) (tC (.int 1))) (tC (.int 0)))))) σ H Q := by
  obtain ⟨a, xs, rfl, h1⟩ := exT o.rp
  have t0 : ∀ {G : Hp}, Same H G → Te (tOp (rIxT K) (tVar i) (tC (.int 0))) σ G (.str e.word) := fun s => te_ixT (te_var hi) te_c (Same.sqT s h1) (atI_nat (j := 0) rfl)
  have step1 : ∀ {R : Bool → Hp → Prop}, (∀ G, Same H G → R (!decide (V.str (sg e.word) = V.str "")) G) → tTest (tOp rNe (tCall spSg [] E (tCons (tOp (rIxT K) (tVar i) (tC (.int 0))) tNil)) (tC (.str ""))) σ H R := fun {R} hR =>
    tst_un (op_un (go_call (ta1 (t0 (Same.refl H))) ⟨e.word, rfl, fun G s => Te.go te_c ⟨rfl, _, rfl, hR G s⟩⟩))
  have step2 : ∀ {G : Hp} {R : Bool → Hp → Prop}, Same H G → (∀ G', Same H G' → R (decide (e.word ∈ (["negative", "not"] : List Str))) G') → tTest (tOp (rIn K false) (tOp (rIxT K) (tVar i) (tC (.int 0))) (tLst (tCons (tC (.str "negative")) (tCons (tC (.str "not")) tNil)))) σ G R := fun {G R} s hR =>
    tst_un (op_un (Te.go (t0 s) (lst_un ((ta_cons te_c (ta_cons te_c ta_nil)) _ ⟨by show 2 ≤ sizeLine; decide, fun p hp => ⟨p, _, rfl, .inl (SqL.of upd_same), rfl, rfl, _, rfl, by
      have := hR _ (s.trans (Same.upd hp (o := .lst [V.str "negative", V.str "not"])))
      rw [← inV_str] at this
      exact this⟩⟩))))
  have lo : decide (lev e < 7) = true → (∀ H', Same H H' → Q true H') := fun h => by rw [h] at k; exact k
  have hi' : decide (lev e < 7) = false → (∀ H', Same H H' → Q false H') := fun h => by rw [h] at k; exact k
  obtain ⟨vs, ks, wf⟩ := o.wf
  have leaf : sg e.word = "" → decide (e.word ∈ (["negative", "not"] : List Str)) = false → e.word ≠ "number" → lev e = 7 → tOr (tTest (tOp rNe (tCall spSg [] E (tCons (tOp (rIxT K) (tVar i) (tC (.int 0))) tNil)) (tC (.str "")))) (tOr (tTest (tOp (rIn K false) (tOp (rIxT K) (tVar i) (tC (.int 0))) (tLst (tCons (tC (.str "negative")) (tCons (tC (.str "not")) tNil))))) (tAnd (tTest (tOp rEq (tOp (rIxT K) (tVar i) (tC (.int 0))) (tC (.str "number")))) (tTest (tOp (rI0 fun i j => V.bl (decide (i < j))) (tOp (rIxT K) (tVar i) (tC (.int 1))) (tC (.int 0)))))) σ H Q := fun h1 h2 h3 h4 => by
    refine or_un2 (step1 fun G s => ?_)
    rw [h1, if_neg (by decide)]
    refine or_un2 (step2 s fun G' s' => ?_)
    rw [h2, if_neg Bool.false_ne_true]
    exact YG.and_un (b := false) (tt_test (te_eqF (x := .str e.word) (t0 s') te_c rfl (fun z => h3 (V.str.inj z)))) (fun z => nomatch z) fun _ => hi' (by rw [h4]; rfl) _ s'
  cases e with
  | num m =>
    refine or_un2 (step1 fun G s => ?_)
    rw [show (!decide (V.str (sg (Ex.num m).word) = V.str "")) = false from (by decide +kernel : (!decide (V.str (sg "number") = V.str "")) = false), if_neg Bool.false_ne_true]
    refine or_un2 (step2 s fun G' s' => ?_)
    rw [show decide ((Ex.num m).word ∈ (["negative", "not"] : List Str)) = false from (by decide +kernel : decide (("number" : Str) ∈ (["negative", "not"] : List Str)) = false), if_neg Bool.false_ne_true]
    obtain ⟨b, zs, eb, h2, _, y1, ys, rfl, e2, y2, ys2, rfl, e3, _⟩ := o.rp
    cases eb
    simp only [Rp] at e2 e3
    cases e2
    cases e3
    refine YG.and_un (b := true) (tt_test (te_eqT (x := .str "number") (t0 s') te_c rfl)) (fun _ => ?_) (fun z => nomatch z)
    refine (tt_test (te_i0 (te_ixT (te_var hi) te_c (Same.sqT s' h2) (v := .int m) (atI_nat (j := 1) rfl)) te_c)) _ ?_
    have e7 : decide (lev (.num m) < 7) = decide (m < 0) := by
      rw [lev_num]
      by_cases q : m < 0
      · rw [if_pos q, decide_eq_true q]; rfl
      · rw [if_neg q, decide_eq_false q]; rfl
    rw [← e7]
    exact k _ s'
  | var w x =>
    obtain ⟨hw, _⟩ := wf
    subst hw
    exact leaf (show sg "local" = "" by decide +kernel) (show decide (("local" : Str) ∈ (["negative", "not"] : List Str)) = false by decide +kernel) (show ("local" : Str) ≠ "number" by decide) rfl
  | cell x j => exact leaf (show sg "cell" = "" by decide +kernel) (show decide (("cell" : Str) ∈ (["negative", "not"] : List Str)) = false by decide +kernel) (show ("cell" : Str) ≠ "number" by decide) rfl
  | one w a =>
    have hw := wf.1
    refine or_un2 (step1 fun G s => ?_)
    have h1 : sg w = "" := by
      simp only [Ex.words1, List.mem_cons, List.not_mem_nil, or_false] at hw
      rcases hw with rfl | rfl <;> decide +kernel
    have h2 : decide (w ∈ (["negative", "not"] : List Str)) = true := by
      simp only [Ex.words1, List.mem_cons, List.not_mem_nil, or_false] at hw
      rcases hw with rfl | rfl <;> decide +kernel
    have h3 : decide (lev (.one w a) < 7) = true := by
      simp only [Ex.words1, List.mem_cons, List.not_mem_nil, or_false] at hw
      rcases hw with rfl | rfl <;> rfl
    rw [show sg (Ex.one w a).word = "" from h1, if_neg (by decide)]
    refine or_un2 (step2 s fun G' s' => ?_)
    rw [show decide ((Ex.one w a).word ∈ (["negative", "not"] : List Str)) = true from h2, if_pos rfl]
    exact lo h3 _ s'
  | two w a b =>
    have hw := wf.1
    refine or_un2 (step1 fun G s => ?_)
    have h1 : (!decide (V.str (sg w) = V.str "")) = true := by
      simp only [Ex.words2, List.mem_cons, List.not_mem_nil, or_false] at hw
      rcases hw with rfl | rfl | rfl | rfl | rfl | rfl | rfl | rfl | rfl | rfl <;> decide +kernel
    have h3 : decide (lev (.two w a b) < 7) = true := by
      have := lev_two hw
      exact decide_eq_true (show lvI w < 7 by omega)
    rw [show (!decide (V.str (sg (Ex.two w a b).word) = V.str "")) = true from h1, if_pos rfl]
    exact lo h3 _ s
section
variable {P : Program} {w : World} {K : PySem.W.Frag} {mg : Str → Option Value} {base : Heap} {A : Adr} {n : Nat}
theorem f_lpart (T : Txt K mg A) (h : FnOk P w K mg base CX0 (2 * n + 2) A.a__law_written A.d__law_written ["exp"] (spWr K n wrT)) : FnOk P w K mg base CX0 (2 * n + 3) A.a__law_part A.d__law_part ["exp"] (spWr K n fun e => bxT e (wrT e)) := by
  refine T.F__law_part.ok (k := 2 * n + 2) sc_law_part (fun ws H Q E ⟨_, _, e, _⟩ => by rw [e]; rfl) (fun cdv A' outer s H ws Q E hr h' => ?_)
  obtain ⟨v, e, rfl, o, k⟩ := h'
  refine ⟨_, pss_cons (ps_if (PW.pt (pw_or (pt_cmpR op_ne (pe_call (ok_law_sign T) (hr.mono (by omega)) rfl T.g__law_sign T.F__law_sign.kp T.b__law_sign .nil pass0 (pa_cons (pe_ix ix_tup (pv 0) (pe_int) (fun _ _ => rfl)) pa_nil)) (pe_str) (nomark _)) (pw_or (pt_cmpR op_in_seq (pe_ix ix_tup (pv 0) (pe_int) (fun _ _ => rfl)) (pe_lst (pa_cons (pe_str) (pa_cons (pe_str) pa_nil))) (by rfl)) (pw_or1 (PW.pt (pw_and (pt_cmpR op_eq (pe_ix ix_tup (pv 0) (pe_int) (fun _ _ => rfl)) (pe_str) (nomark _)) (pw_and1 (pt_cmpR op_lt (pe_ix ix_tup (pv 0) (pe_int) (fun _ _ => rfl)) (pe_int) (nomark _)))))))))
  (pss_one (ps_ret (pe_op op_add_str (pe_op op_add_str (pe_str) (pe_call h (hr.mono (by omega)) rfl T.g__law_written T.F__law_written.kp T.b__law_written .nil pass0 (pa_cons (pv 0) pa_nil))) (pe_str))))
  (pss_nil))
  (pss_one (ps_ret (pe_call h (hr.mono (by omega)) rfl T.g__law_written T.F__law_written.kp T.b__law_written .nil pass0 (pa_cons (pv 0) pa_nil)))), ?_⟩
  obtain ⟨vs, ks, wf⟩ := id o.wf
  have sm := wr_small wf o.d9
  refine sq_go (iff_un (low_un (i := 0) rfl o fun H1 s1 => ?_))
  by_cases q : lev e < 7
  · rw [decide_eq_true q, if_pos rfl]
    refine ret_un (op_un (op_un (Te.go te_c (go_call (ta1 (te_var rfl)) ⟨v, e, rfl, o.same s1, fun H2 s2 => ?_⟩))))
    refine ⟨_, _, rfl, rfl, ?_, Te.go te_c ⟨_, _, rfl, rfl, ?_, ?_⟩⟩
    · have : ("(" : Str).length = 1 := rfl
      omega
    · rw [PySem.Str.length_append]
      have h1 : ("(" : Str).length = 1 := rfl
      have h2 : (")" : Str).length = 1 := rfl
      omega
    · have e1 : bxT e (wrT e) = "(" ++ wrT e ++ ")" := if_pos q
      have := k H2 (s1.trans s2)
      dsimp only at this
      rw [e1] at this
      exact this
  · rw [decide_eq_false q, if_neg Bool.false_ne_true]
    refine ret_un (go_call (ta1 (te_var rfl)) ⟨v, e, rfl, o.same s1, fun H2 s2 => ?_⟩)
    have e1 : bxT e (wrT e) = wrT e := if_neg q
    have := k H2 (s1.trans s2)
    dsimp only at this
    rw [e1] at this
    exact this
theorem f_lindex (T : Txt K mg A) (h : FnOk P w K mg base CX0 (2 * n + 2) A.a__law_written A.d__law_written ["exp"] (spWr K n wrT)) : FnOk P w K mg base CX0 (2 * n + 3) A.a__law_index A.d__law_index ["exp"] (spWr K n fun e => ixT e (wrT e)) := by
  refine T.F__law_index.ok (k := 2 * n + 2) sc_law_index (fun ws H Q E ⟨_, _, e, _⟩ => by rw [e]; rfl) (fun cdv A' outer s H ws Q E hr h' => ?_)
  obtain ⟨v, e, rfl, o, k⟩ := h'
  refine ⟨_, pss_cons (ps_if (pt_cmpR (op_eqD hr.units) (pv 0) (pe_tup (pa_cons (pe_str) (pa_cons (pe_int) pa_nil))) (nomark _))
  (pss_one (ps_ret (pe_str)))
  (pss_nil))
  (pss_one (ps_ret (pe_op op_add_str (pe_op op_add_str (pe_str) (pe_call h (hr.mono (by omega)) rfl T.g__law_written T.F__law_written.kp T.b__law_written .nil pass0 (pa_cons (pv 0) pa_nil))) (pe_str)))), ?_⟩
  obtain ⟨vs, ks, wf⟩ := id o.wf
  have sm := wr_small wf o.d9
  have d9 := o.d9
  refine ifs_un (zero_un (te_var rfl) (Same.refl H) o.rp wf (by omega) fun H1 s1 => ⟨_, rfl, ?_⟩)
  by_cases q : isZ0 e = true
  · rw [if_pos q]
    refine ret_te te_c ?_
    have e1 : ixT e (wrT e) = "" := if_pos q
    have := k H1 s1
    dsimp only at this
    rw [e1] at this
    exact this
  · rw [if_neg q]
    refine ret_un (op_un (op_un (Te.go te_c (go_call (ta1 (te_var rfl)) ⟨v, e, rfl, o.same s1, fun H2 s2 => ?_⟩))))
    refine ⟨_, _, rfl, rfl, ?_, Te.go te_c ⟨_, _, rfl, rfl, ?_, ?_⟩⟩
    · have : ("(" : Str).length = 1 := rfl
      omega
    · rw [PySem.Str.length_append]
      have h1 : ("(" : Str).length = 1 := rfl
      have h2 : (")" : Str).length = 1 := rfl
      omega
    · have e1 : ixT e (wrT e) = "(" ++ wrT e ++ ")" := if_neg q
      have := k H2 (s1.trans s2)
      dsimp only at this
      rw [e1] at this
      exact this
end
end K01

namespace K01
open PySem L2 YF YG
/-- an expression's tuple, part by part -/
theorem rp_one {K : PySem.W.Frag} {H : Hp} {w : Str} {a : Ex} {v : V} (r : Rp K H (Ex.one w a).d [v]) : ∃ b x, v = .ref b ∧ SqT K H b [.str w, x] ∧ Rp K H a.d [x] := by
  obtain ⟨b, xs, ea, h1, _, y1, ys, rfl, e2, y2, ys2, rfl, e3, e4⟩ := r
  have e2 : [y1] = [V.str w] := e2
  have e4 : ys2 = [] := e4
  cases e2
  subst e4
  exact ⟨b, y2, (List.cons.inj ea).1, h1, e3⟩
theorem rp_two {K : PySem.W.Frag} {H : Hp} {w : Str} {a b : Ex} {v : V} (r : Rp K H (Ex.two w a b).d [v]) : ∃ c x y, v = .ref c ∧ SqT K H c [.str w, x, y] ∧ Rp K H a.d [x] ∧ Rp K H b.d [y] := by
  obtain ⟨c, xs, ea, h1, _, y1, ys, rfl, e2, y2, ys2, rfl, e3, y3, ys3, rfl, e4, e5⟩ := r
  have e2 : [y1] = [V.str w] := e2
  have e5 : ys3 = [] := e5
  cases e2
  subst e5
  exact ⟨c, y2, y3, (List.cons.inj ea).1, h1, e3, e4⟩
theorem rp_cell {K : PySem.W.Frag} {H : Hp} {z : Str} {i : Ex} {v : V} (r : Rp K H (Ex.cell z i).d [v]) : ∃ c x, v = .ref c ∧ SqT K H c [.str "cell", .str z, x] ∧ Rp K H i.d [x] := by
  obtain ⟨c, xs, ea, h1, _, y1, ys, rfl, e2, y2, ys2, rfl, e3, y3, ys3, rfl, e4, e5⟩ := r
  have e2 : [y1] = [V.str "cell"] := e2
  have e3 : [y2] = [V.str z] := e3
  have e5 : ys3 = [] := e5
  cases e2
  cases e3
  subst e5
  exact ⟨c, y3, (List.cons.inj ea).1, h1, e4⟩
theorem rp_num {K : PySem.W.Frag} {H : Hp} {n : Int} {v : V} (r : Rp K H (Ex.num n).d [v]) : ∃ a, v = .ref a ∧ SqT K H a [.str "number", .int n] := by
  obtain ⟨a, xs, ea, h1, _, y1, ys, rfl, e2, y2, ys2, rfl, e3, e4⟩ := r
  simp only [Rp] at e2 e3 e4
  cases e2
  cases e3
  subst e4
  exact ⟨a, (List.cons.inj ea).1, h1⟩
theorem rp_var {K : PySem.W.Frag} {H : Hp} {w z : Str} {v : V} (r : Rp K H (Ex.var w (.str z)).d [v]) : ∃ a, v = .ref a ∧ SqT K H a [.str w, .str z] := by
  obtain ⟨a, xs, ea, h1, _, y1, ys, rfl, e2, y2, ys2, rfl, e3, e4⟩ := r
  simp only [Rp] at e2 e3 e4
  cases e2
  cases e3
  subst e4
  exact ⟨a, (List.cons.inj ea).1, h1⟩
theorem lg_num {n : Int} (h : InR n) : n.natAbs.log2 < 1920 := by
  have hb : n.natAbs ≤ 1000000000 := by
    obtain ⟨h1, h2⟩ : -1000000000 ≤ n ∧ n ≤ 1000000000 := h
    omega
  by_cases h0 : n.natAbs = 0
  · rw [h0]; decide
  · exact Nat.lt_trans ((Nat.log2_lt h0).mpr (Nat.lt_of_le_of_lt hb (show 1000000000 < 2 ^ 30 by decide))) (by decide)
theorem OkE.one {K : PySem.W.Frag} {H : Hp} {v x : V} {w : Str} {a : Ex} {n : Nat} (o : OkE K H v (.one w a) (n + 1)) (r : Rp K H a.d [x]) : OkE K H x a n := by
  obtain ⟨vs, ks, wf⟩ := o.wf
  have d : dpE (.one w a) = dpE a + 1 := rfl
  have := o.dn
  have := o.d9
  exact ⟨r, ⟨vs, ks, wf.2⟩, by omega, by omega⟩
theorem OkE.two {K : PySem.W.Frag} {H : Hp} {v x y : V} {w : Str} {a b : Ex} {n : Nat} (o : OkE K H v (.two w a b) (n + 1)) (r : Rp K H a.d [x]) (s : Rp K H b.d [y]) : OkE K H x a n ∧ OkE K H y b n := by
  obtain ⟨vs, ks, wf⟩ := o.wf
  have d : dpE (.two w a b) = max (dpE a) (dpE b) + 1 := rfl
  have := o.dn
  have := o.d9
  have := Nat.le_max_left (dpE a) (dpE b)
  have := Nat.le_max_right (dpE a) (dpE b)
  exact ⟨⟨r, ⟨vs, ks, wf.2.1⟩, by omega, by omega⟩, ⟨s, ⟨vs, ks, wf.2.2⟩, by omega, by omega⟩⟩
theorem OkE.cell {K : PySem.W.Frag} {H : Hp} {v x : V} {w : Str} {a : Ex} {n : Nat} (o : OkE K H v (.cell w a) (n + 1)) (r : Rp K H a.d [x]) : OkE K H x a n := by
  obtain ⟨vs, ks, wf⟩ := o.wf
  have d : dpE (.cell w a) = dpE a + 1 := rfl
  have := o.dn
  have := o.d9
  exact ⟨r, ⟨vs, ks, wf.2.2.2⟩, by omega, by omega⟩
theorem te_ixS {K : PySem.W.Frag} {σ : L2.St} {H : Hp} {ta tb : TE} {i : Int} {p : Addr} {xs : List V} {v : V} (ha : Te ta σ H (.ref p)) (hb : Te tb σ H (.int i)) (h : SqT K H p xs) (e : atI xs i = some v) : Te (tOp (rIx K) ta tb) σ H v := fun Q q => ha _ (hb _ (.inr (.inl ⟨p, xs, i, v, rfl, rfl, h, e, q⟩)))
theorem te_wd {K : PySem.W.Frag} {σ : L2.St} {H : Hp} {ta : TE} {v : V} {e : Ex} (ha : Te ta σ H v) (r : Rp K H e.d [v]) : Te (tOp (rIx K) ta (tC (.int 0))) σ H (.str e.word) := by
  obtain ⟨a, xs, rfl, h1⟩ := exT r
  exact te_ixS ha te_c h1 (atI_nat (j := 0) rfl)
theorem num_word {e : Ex} (h : ∃ vs ks, wfC vs ks e) : decide (V.str e.word = V.str "number") = isNum e := by
  obtain ⟨vs, ks, h⟩ := h
  cases e with
  | num n => exact decide_eq_true rfl
  | var w x =>
    obtain ⟨hw, _⟩ := h
    subst hw
    exact (by decide : decide (V.str "local" = V.str "number") = false)
  | cell x i => exact (by decide : decide (V.str "cell" = V.str "number") = false)
  | one w a =>
    have hw := h.1
    have : w ≠ "number" := fun z => by rw [z] at hw; exact absurd hw (by decide)
    exact decide_eq_false fun z => this (V.str.inj z)
  | two w a b =>
    have hw := h.1
    have : w ≠ "number" := fun z => by rw [z] at hw; exact absurd hw (by decide)
    exact decide_eq_false fun z => this (V.str.inj z)
section
variable {P : Program} {w : World} {K : PySem.W.Frag} {mg : Str → Option Value} {base : Heap} {A : Adr} {n : Nat}
theorem f_written (T : Txt K mg A) (h : FnOk P w K mg base CX0 (2 * n + 2) A.a__law_written A.d__law_written ["exp"] (spWr K n wrT)) (hp : FnOk P w K mg base CX0 (2 * n + 3) A.a__law_part A.d__law_part ["exp"] (spWr K n fun e => bxT e (wrT e))) (hi : FnOk P w K mg base CX0 (2 * n + 3) A.a__law_index A.d__law_index ["exp"] (spWr K n fun e => ixT e (wrT e))) : FnOk P w K mg base CX0 (2 * n + 4) A.a__law_written A.d__law_written ["exp"] (spWr K (n + 1) wrT) := by
  refine T.F__law_written.ok (k := 2 * n + 3) sc_law_written (fun ws H Q E ⟨_, _, e, _⟩ => by rw [e]; rfl) (fun cdv A' outer s H ws Q E hr h' => ?_)
  obtain ⟨v, e, rfl, o, k⟩ := h'
  refine ⟨_, pss_cons (ps_set (i := 1) sc_law_written.nd rfl (Or.inl rfl) (pe_ix ix_tup (pv 0) (pe_int) (fun _ _ => rfl)))
  (pss_cons (ps_if (pt_cmpR op_eq (pv 1) (pe_str) (nomark _))
  (pss_one (ps_ret (pe_callTy call_str_int (by rfl) T.n_str (by decide +kernel) (pa_cons (pe_ix ix_tup (pv 0) (pe_int) (fun _ _ => rfl)) pa_nil))))
  (pss_nil))
  (pss_cons (ps_if (pt_cmpR op_eq (pv 1) (pe_str) (nomark _))
  (pss_one (ps_ret (pe_ix ix_tup (pv 0) (pe_int) (fun _ _ => rfl))))
  (pss_nil))
  (pss_cons (ps_if (pt_cmpR op_eq (pv 1) (pe_str) (nomark _))
  (pss_one (ps_ret (pe_op op_add_str (pe_ix ix_tup (pv 0) (pe_int) (fun _ _ => rfl)) (pe_call hi (hr.mono (by omega)) rfl T.g__law_index T.F__law_index.kp T.b__law_index .nil pass0 (pa_cons (pe_ix ix_tup (pv 0) (pe_int) (fun _ _ => rfl)) pa_nil)))))
  (pss_nil))
  (pss_cons (ps_if (pt_cmpR op_eq (pv 1) (pe_str) (nomark _))
  (pss_one (ps_ret (pe_op op_add_str (pe_str) (pe_call hp (hr.mono (by omega)) rfl T.g__law_part T.F__law_part.kp T.b__law_part .nil pass0 (pa_cons (pe_ix ix_tup (pv 0) (pe_int) (fun _ _ => rfl)) pa_nil)))))
  (pss_nil))
  (pss_cons (ps_if (pt_cmpR op_eq (pv 1) (pe_str) (nomark _))
  (pss_cons (ps_if (pt_cmpR op_eq (pe_ix ix_seq (pe_ix ix_tup (pv 0) (pe_int) (fun _ _ => rfl)) (pe_int) (fun _ _ => rfl)) (pe_str) (nomark _))
  (pss_one (ps_ret (pe_op op_add_str (pe_op op_add_str (pe_str) (pe_call h (hr.mono (by omega)) rfl T.g__law_written T.F__law_written.kp T.b__law_written .nil pass0 (pa_cons (pe_ix ix_tup (pv 0) (pe_int) (fun _ _ => rfl)) pa_nil))) (pe_str))))
  (pss_nil))
  (pss_one (ps_ret (pe_op op_add_str (pe_str) (pe_call hp (hr.mono (by omega)) rfl T.g__law_part T.F__law_part.kp T.b__law_part .nil pass0 (pa_cons (pe_ix ix_tup (pv 0) (pe_int) (fun _ _ => rfl)) pa_nil))))))
  (pss_nil))
  (pss_one (ps_ret (pe_op op_add_str (pe_op op_add_str (pe_call hp (hr.mono (by omega)) rfl T.g__law_part T.F__law_part.kp T.b__law_part .nil pass0 (pa_cons (pe_ix ix_tup (pv 0) (pe_int) (fun _ _ => rfl)) pa_nil)) (pe_call (ok_law_sign T) (hr.mono (by omega)) rfl T.g__law_sign T.F__law_sign.kp T.b__law_sign .nil pass0 (pa_cons (pv 1) pa_nil))) (pe_call hp (hr.mono (by omega)) rfl T.g__law_part T.F__law_part.kp T.b__law_part .nil pass0 (pa_cons (pe_ix ix_tup (pv 0) (pe_int) (fun _ _ => rfl)) pa_nil)))))))))), ?_⟩
  obtain ⟨vs, ks, wf⟩ := id o.wf
  have sl : sizeLine = 16777216 := sizeLine_eq
  have nw : ∀ {u z : Str}, u ≠ z → V.str u ≠ V.str z := fun h q => h (V.str.inj q)
  cases e with
  | num m =>
    obtain ⟨a, rfl, h1⟩ := rp_num o.rp
    refine asg_te (te_ixT (te_var rfl) te_c h1 (atI_nat (j := 0) rfl)) ?_
    refine set_sl (σ' := [some (.ref a), some (.str "number")]) rfl ?_
    refine if_seq (b := true) (tt_test (te_eqT (te_var rfl) te_c rfl)) (fun _ => ?_) (fun z => nomatch z)
    exact ret_un ((ta1 (te_ixT (te_var rfl) te_c h1 (atI_nat (j := 1) rfl))) _ ⟨m, rfl, lg_num wf, k _ (Same.refl H)⟩)
  | var w x =>
    obtain ⟨rfl, z, rfl, _⟩ := wf
    obtain ⟨a, rfl, h1⟩ := rp_var o.rp
    refine asg_te (te_ixT (te_var rfl) te_c h1 (atI_nat (j := 0) rfl)) ?_
    refine set_sl (σ' := [some (.ref a), some (.str "local")]) rfl ?_
    refine if_seq (b := false) (tt_test (te_eqF (x := .str "local") (te_var rfl) te_c rfl (nw (by decide)))) (fun z => nomatch z) fun _ => ?_
    refine if_seq (b := true) (tt_test (te_eqT (te_var rfl) te_c rfl)) (fun _ => ?_) (fun z => nomatch z)
    exact ret_te (te_ixT (te_var rfl) te_c h1 (atI_nat (j := 1) rfl)) (k _ (Same.refl H))
  | cell z i =>
    obtain ⟨a, x, rfl, h1, ri⟩ := rp_cell o.rp
    have oi := o.cell ri
    obtain ⟨hn, _, _, wi⟩ := wf
    refine asg_te (te_ixT (te_var rfl) te_c h1 (atI_nat (j := 0) rfl)) ?_
    refine set_sl (σ' := [some (.ref a), some (.str "cell")]) rfl ?_
    refine if_seq (b := false) (tt_test (te_eqF (x := .str "cell") (te_var rfl) te_c rfl (nw (by decide)))) (fun z => nomatch z) fun _ => ?_
    refine if_seq (b := false) (tt_test (te_eqF (x := .str "cell") (te_var rfl) te_c rfl (nw (by decide)))) (fun z => nomatch z) fun _ => ?_
    refine if_seq (b := true) (tt_test (te_eqT (te_var rfl) te_c rfl)) (fun _ => ?_) (fun z => nomatch z)
    refine ret_un (op_un (Te.go (te_ixT (te_var rfl) te_c h1 (v := .str z) (atI_nat (j := 1) rfl)) (go_call (ta1 (te_ixT (te_var rfl) te_c h1 (v := x) (atI_nat (j := 2) rfl))) ⟨x, i, rfl, oi, fun H1 s1 => ⟨_, _, rfl, rfl, ?_, k _ s1⟩⟩)))
    have sm := wr_small wi oi.d9
    have : (ixT i (wrT i)).length ≤ (wrT i).length + 2 := by
      unfold ixT
      split
      · exact Nat.zero_le _
      · rw [PySem.Str.length_append, PySem.Str.length_append]
        show 1 + (wrT i).length + 1 ≤ _
        omega
    have := hn.2.1
    show z.length + (ixT i (wrT i)).length ≤ sizeLine
    omega
  | one w a =>
    obtain ⟨b, x, rfl, h1, ra⟩ := rp_one o.rp
    have oa := o.one ra
    obtain ⟨hw, wa⟩ := wf
    have sm := wr_small wa oa.d9
    have bm := bx_small wa oa.d9
    refine asg_te (te_ixT (te_var rfl) te_c h1 (atI_nat (j := 0) rfl)) ?_
    refine set_sl (σ' := [some (.ref b), some (.str w)]) rfl ?_
    have nn : w ≠ "number" ∧ w ≠ "local" ∧ w ≠ "cell" := by
      simp only [Ex.words1, List.mem_cons, List.not_mem_nil, or_false] at hw
      rcases hw with rfl | rfl <;> exact ⟨by decide, by decide, by decide⟩
    refine if_seq (b := false) (tt_test (te_eqF (x := .str w) (te_var rfl) te_c rfl (nw nn.1))) (fun z => nomatch z) fun _ => ?_
    refine if_seq (b := false) (tt_test (te_eqF (x := .str w) (te_var rfl) te_c rfl (nw nn.2.1))) (fun z => nomatch z) fun _ => ?_
    refine if_seq (b := false) (tt_test (te_eqF (x := .str w) (te_var rfl) te_c rfl (nw nn.2.2))) (fun z => nomatch z) fun _ => ?_
    by_cases q : w = "not"
    · subst q
      refine if_seq (b := true) (tt_test (te_eqT (te_var rfl) te_c rfl)) (fun _ => ?_) (fun z => nomatch z)
      refine ret_un (op_un (Te.go te_c (go_call (ta1 (te_ixT (te_var rfl) te_c h1 (v := x) (atI_nat (j := 1) rfl))) ⟨x, a, rfl, oa, fun H1 s1 => ⟨_, _, rfl, rfl, ?_, ?_⟩⟩)))
      · show 4 + (bxT a (wrT a)).length ≤ sizeLine
        omega
      · have e1 : wrT (.one "not" a) = "not " ++ bxT a (wrT a) := if_pos rfl
        have := k _ s1
        rw [e1] at this
        exact this
    · have hw : w = "negative" := by
        simp only [Ex.words1, List.mem_cons, List.not_mem_nil, or_false] at hw
        exact hw.resolve_left q
      subst hw
      refine if_seq (b := false) (tt_test (te_eqF (x := .str "negative") (te_var rfl) te_c rfl (nw (by decide)))) (fun z => nomatch z) fun _ => ?_
      refine if_seq (b := true) (tt_test (te_eqT (te_var rfl) te_c rfl)) (fun _ => ?_) (fun z => nomatch z)
      refine if_seq (tt_test (te_eq (te_wd (te_ixT (te_var rfl) te_c h1 (v := x) (atI_nat (j := 1) rfl)) ra) te_c rfl)) (fun hn => ?_) fun hn => ?_
      · rw [num_word oa.wf] at hn
        refine ret_un (op_un (op_un (Te.go te_c (go_call (ta1 (te_ixT (te_var rfl) te_c h1 (v := x) (atI_nat (j := 1) rfl))) ⟨x, a, rfl, oa, fun H1 s1 => ?_⟩))))
        refine ⟨_, _, rfl, rfl, ?_, Te.go te_c ⟨_, _, rfl, rfl, ?_, ?_⟩⟩
        · show 2 + (wrT a).length ≤ sizeLine
          omega
        · rw [PySem.Str.length_append]
          show 2 + (wrT a).length + 1 ≤ sizeLine
          omega
        · have e1 : wrT (.one "negative" a) = "-(" ++ wrT a ++ ")" := (if_neg (by decide)).trans (if_pos hn)
          have := k _ s1
          rw [e1] at this
          exact this
      · rw [num_word oa.wf] at hn
        refine ret_un (op_un (Te.go te_c (go_call (ta1 (te_ixT (te_var rfl) te_c h1 (v := x) (atI_nat (j := 1) rfl))) ⟨x, a, rfl, oa, fun H1 s1 => ⟨_, _, rfl, rfl, ?_, ?_⟩⟩)))
        · show 1 + (bxT a (wrT a)).length ≤ sizeLine
          omega
        · have e1 : wrT (.one "negative" a) = "-" ++ bxT a (wrT a) := (if_neg (by decide)).trans (if_neg (by rw [hn]; exact Bool.false_ne_true))
          have := k _ s1
          rw [e1] at this
          exact this
  | two w a b =>
    obtain ⟨c, x, y, rfl, h1, ra, rb⟩ := rp_two o.rp
    obtain ⟨oa, ob⟩ := o.two ra rb
    obtain ⟨hw, wa, wb⟩ := wf
    have am := bx_small wa oa.d9
    have bm := bx_small wb ob.d9
    have lg := len_sg w hw
    refine asg_te (te_ixT (te_var rfl) te_c h1 (atI_nat (j := 0) rfl)) ?_
    refine set_sl (σ' := [some (.ref c), some (.str w)]) rfl ?_
    have nn : w ≠ "number" ∧ w ≠ "local" ∧ w ≠ "cell" ∧ w ≠ "not" ∧ w ≠ "negative" := by
      simp only [Ex.words2, List.mem_cons, List.not_mem_nil, or_false] at hw
      rcases hw with rfl | rfl | rfl | rfl | rfl | rfl | rfl | rfl | rfl | rfl <;> exact ⟨by decide, by decide, by decide, by decide, by decide⟩
    refine if_seq (b := false) (tt_test (te_eqF (x := .str w) (te_var rfl) te_c rfl (nw nn.1))) (fun z => nomatch z) fun _ => ?_
    refine if_seq (b := false) (tt_test (te_eqF (x := .str w) (te_var rfl) te_c rfl (nw nn.2.1))) (fun z => nomatch z) fun _ => ?_
    refine if_seq (b := false) (tt_test (te_eqF (x := .str w) (te_var rfl) te_c rfl (nw nn.2.2.1))) (fun z => nomatch z) fun _ => ?_
    refine if_seq (b := false) (tt_test (te_eqF (x := .str w) (te_var rfl) te_c rfl (nw nn.2.2.2.1))) (fun z => nomatch z) fun _ => ?_
    refine if_seq (b := false) (tt_test (te_eqF (x := .str w) (te_var rfl) te_c rfl (nw nn.2.2.2.2))) (fun z => nomatch z) fun _ => ?_
    refine ret_un (op_un (op_un (go_call (ta1 (te_ixT (te_var rfl) te_c h1 (v := x) (atI_nat (j := 1) rfl))) ⟨x, a, rfl, oa, fun H1 s1 => ?_⟩)))
    refine go_call (ta1 (te_var rfl)) ⟨w, rfl, fun H2 s2 => ⟨_, _, rfl, rfl, by show (bxT a (wrT a)).length + (sg w).length ≤ sizeLine; omega, ?_⟩⟩
    refine go_call (ta1 (te_ixT (te_var rfl) te_c (Same.sqT (s1.trans s2) h1) (v := y) (atI_nat (j := 2) rfl))) ⟨y, b, rfl, ob.same (s1.trans s2), fun H3 s3 => ⟨_, _, rfl, rfl, by rw [PySem.Str.length_append]; show (bxT a (wrT a)).length + (sg w).length + (bxT b (wrT b)).length ≤ sizeLine; omega, ?_⟩⟩
    exact k _ ((s1.trans s2).trans s3)
theorem ok_law_written (T : Txt K mg A) : ∀ n, FnOk P w K mg base CX0 (2 * n + 2) A.a__law_written A.d__law_written ["exp"] (spWr K n wrT)
  | 0 => ⟨fun ws H Q E ⟨_, _, _, o, _⟩ => absurd o.dn (Nat.not_lt_zero _), fun _ _ _ _ _ _ _ _ _ _ _ _ _ ⟨_, _, _, o, _⟩ => absurd o.dn (Nat.not_lt_zero _)⟩
  | n + 1 => f_written T (ok_law_written T n) (f_lpart T (ok_law_written T n)) (f_lindex T (ok_law_written T n))
end
end K01

namespace K01
open PySem L2 YF YG
/-! ### the writer: pieces -/
inductive Pc where
  | t (z : Str)
  | x (v : V) (e : Ex)
def Pc.v : Pc → V
  | .t z => .str z
  | .x v _ => v
def Pc.z : Pc → Str
  | .t z => z
  | .x _ e => wrT e
def wtE : Ex → Nat
  | .num _ => 2
  | .var _ _ => 2
  | .cell _ i => wtE i + 4
  | .one _ a => wtE a + 4
  | .two _ a b => wtE a + wtE b + 6
def Pc.wt : Pc → Nat
  | .t _ => 1
  | .x _ e => wtE e
def catS : List Str → Str
  | [] => ""
  | z :: r => z ++ catS r
def catP (l : List Pc) : Str := catS (l.map Pc.z)
def wts (l : List Pc) : Nat := (l.map Pc.wt).sum
structure GoE (K : PySem.W.Frag) (H : Hp) (v : V) (e : Ex) : Prop where
  rp : Rp K H e.d [v]
  wf : ∃ vs ks, wfC vs ks e
  d9 : dpE e ≤ 9
theorem GoE.same {K : PySem.W.Frag} {H H' : Hp} {v : V} {e : Ex} (o : GoE K H v e) (s : Same H H') : GoE K H' v e := ⟨Rp.mono s o.rp, o.wf, o.d9⟩
def Pc.ok (K : PySem.W.Frag) (H : Hp) : Pc → Prop
  | .t z => z.length ≤ 100000
  | .x v e => GoE K H v e
theorem catS_app : ∀ a b : List Str, catS (a ++ b) = catS a ++ catS b
  | [], b => (nil_app _).symm
  | z :: r, b => by
    show z ++ catS (r ++ b) = z ++ catS r ++ catS b
    rw [catS_app r b, app_as]
theorem catP_app (a b : List Pc) : catP (a ++ b) = catP a ++ catP b := by
  unfold catP
  rw [List.map_append, catS_app]
theorem wts_app (a b : List Pc) : wts (a ++ b) = wts a + wts b := by
  unfold wts
  rw [List.map_append, List.sum_append]
theorem app_nil' (a : Str) : a ++ "" = a := str_ext (by rw [cs_app]; exact List.append_nil _)
theorem wt_pos : ∀ e : Ex, 2 ≤ wtE e
  | .num _ => Nat.le_refl _
  | .var _ _ => Nat.le_refl _
  | .cell _ i => by unfold wtE; omega
  | .one _ a => by unfold wtE; omega
  | .two _ a b => by unfold wtE; omega
theorem wt_le : ∀ e : Ex, wtE e + 6 ≤ 8 * 2 ^ dpE e
  | .num _ => Nat.le_refl _
  | .var _ _ => Nat.le_refl _
  | .cell _ i => by
    have := wt_le i
    have e : dpE (.cell ‹_› i) = dpE i + 1 := rfl
    rw [e, Nat.pow_succ]
    unfold wtE
    omega
  | .one _ a => by
    have := wt_le a
    have e : dpE (.one ‹_› a) = dpE a + 1 := rfl
    rw [e, Nat.pow_succ]
    unfold wtE
    omega
  | .two _ a b => by
    have := wt_le a
    have := wt_le b
    have h := pow_max (dpE a) (dpE b)
    have e : dpE (.two ‹_› a b) = max (dpE a) (dpE b) + 1 := rfl
    rw [e]
    unfold wtE
    omega
def partP (v : V) (e : Ex) : List Pc := if lev e < 7 then [.t "(", .x v e, .t ")"] else [.x v e]
theorem part_z {v : V} {e : Ex} : catP (partP v e) = bxT e (wrT e) := by
  unfold partP bxT catP
  split
  · show "(" ++ (wrT e ++ (")" ++ "")) = _
    rw [app_nil', app_as]
  · show wrT e ++ "" = _
    rw [app_nil']
theorem part_wt {v : V} {e : Ex} : wts (partP v e) ≤ wtE e + 2 := by
  unfold partP wts
  split
  · show 1 + (wtE e + (1 + 0)) ≤ _
    omega
  · show wtE e + 0 ≤ _
    omega
theorem part_ok {K : PySem.W.Frag} {H : Hp} {v : V} {e : Ex} (o : GoE K H v e) : ∀ p ∈ partP v e, p.ok K H := by
  unfold partP
  split
  · intro p hp
    simp only [List.mem_cons, List.not_mem_nil, or_false] at hp
    rcases hp with rfl | rfl | rfl
    · show ("(" : Str).length ≤ 100000; decide
    · exact o
    · show (")" : Str).length ≤ 100000; decide
  · intro p hp
    rw [List.mem_singleton.mp hp]
    exact o
theorem part_len {v : V} {e : Ex} : (partP v e).length ≤ 3 := by
  unfold partP
  split
  · exact (by decide : 3 ≤ 3)
  · exact (by decide : 1 ≤ 3)
structure OpT (K : PySem.W.Frag) (w : World) (A : Adr) : Prop where
  ops : ∀ u ∈ Ex.words2, KDct K w A.a_OPERATORS u (.str (opK u).2)
def spPart (K : PySem.W.Frag) : Sp := fun ws H Q _ => ∃ (v : V) (e : Ex), ws = [v] ∧ GoE K H v e ∧ ∀ p H', Same H H' → H p = none → H' p = some (.lst ((partP v e).map Pc.v)) → Q (.ref p) H'
def spParts (K : PySem.W.Frag) : Sp := fun ws H Q _ => ∃ (a : Addr) (u : Str) (xs : List V), ws = [.ref a] ∧ SqT K H a (.str u :: xs) ∧ u ∉ (["number", "local", "slot", "cell"] : List Str) ∧ ∀ p H', Same H H' → H p = none → H' p = some (.tup xs) → Q (.ref p) H'
def spPcs (K : PySem.W.Frag) : Sp := fun ws H Q _ => ∃ (B : Hp) (v : V) (e : Ex), ws = [v] ∧ Same B H ∧ GoE K B v e ∧ ∀ p H' (l : List Pc), Same H H' → H p = none → H' p = some (.lst (l.map Pc.v)) → (∀ q ∈ l, q.ok K B) → catP l = wrT e → wts l < wtE e → l.length ≤ 10 → Q (.ref p) H'
section
variable {P : Program} {w : World} {K : PySem.W.Frag} {mg : Str → Option Value} {base : Heap} {A : Adr}
theorem ok_parts_of (T : Txt K mg A) : FnOk P w K mg base CX0 1 A.a_parts_of A.d_parts_of ["expression"] (spParts K) := by
  refine T.F_parts_of.ok sc_parts_of (fun ws H Q E ⟨_, _, _, e, _⟩ => by rw [e]; rfl) (fun cdv A' outer s H ws Q E hr h' => ?_)
  obtain ⟨a, u, xs, rfl, h1, hu, k⟩ := h'
  refine ⟨_, pss_cons (ps_set (i := 1) sc_parts_of.nd rfl (Or.inl rfl) (pe_ix ix_tup (pv 0) (pe_int) (fun _ _ => rfl)))
  (pss_cons (ps_if (pt_cmpR op_in_seq (pv 1) (pe_glob (v := .ref A.a_LEAVES) rfl T.g_LEAVES rfl) (by rfl))
  (pss_one (ps_ret (pe_tup pa_nil)))
  (pss_nil))
  (pss_cons (ps_if (pt_cmpR op_eq (pv 1) (pe_str) (nomark _))
  (pss_one (ps_ret (pe_slice sl_tupA (pv 0) (po_some (pe_int)) (po_none))))
  (pss_nil))
  (pss_one (ps_ret (pe_slice sl_tupA (pv 0) (po_some (pe_int)) (po_none)))))), ?_⟩
  have n1 : u ∉ (["number", "local", "slot"] : List Str) := fun z => hu (by simp only [List.mem_cons, List.not_mem_nil, or_false] at z ⊢; rcases z with z | z | z <;> simp [z])
  have n2 : u ≠ "cell" := fun z => hu (by rw [z]; decide)
  refine asg_te (te_ixT (te_var rfl) te_c h1 (atI_nat (j := 0) rfl)) ?_
  refine set_sl (σ' := [some (.ref a), some (.str u)]) rfl ?_
  refine if_seq (tt_test (te_inT (zs := ["number", "local", "slot"]) (te_var rfl) te_c (.inr (T.z_LEAVES H)))) (fun h => absurd (of_decide_eq_true h) n1) fun _ => ?_
  refine if_seq (b := false) (tt_test (te_eqF (x := .str u) (te_var rfl) te_c rfl (fun z => n2 (V.str.inj z)))) (fun z => nomatch z) fun _ => ?_
  exact ret_un (go_slT (n := 1) (te_var rfl) te_c h1 (by decide) (by simp) fun p hp => k p _ (Same.upd hp) hp upd_same)
theorem ok_part (T : Txt K mg A) : FnOk P w K mg base CX0 1 A.a__part A.d__part ["expression"] (spPart K) := by
  refine T.F__part.ok sc_part (fun ws H Q E ⟨_, _, e, _⟩ => by rw [e]; rfl) (fun cdv A' outer s H ws Q E hr h' => ?_)
  obtain ⟨v, e, rfl, o, k⟩ := h'
  refine ⟨_, pss_cons (ps_set (i := 1) sc_part.nd rfl (Or.inl rfl) (pe_ix ix_tup (pv 0) (pe_int) (fun _ _ => rfl)))
  (pss_cons (ps_if (PW.pt (pw_or (pt_cmpR op_eq (pv 1) (pe_str) (nomark _)) (pw_or (pt_cmpR op_eq (pv 1) (pe_str) (nomark _)) (pw_or1 (PW.pt (pw_and (pt_cmpR op_eq (pv 1) (pe_str) (nomark _)) (pw_and1 (pt_cmpR op_ge (pe_ix ix_tup (pv 0) (pe_int) (fun _ _ => rfl)) (pe_int) (nomark _)))))))))
  (pss_one (ps_ret (pe_lst (pa_cons (pv 0) pa_nil))))
  (pss_nil))
  (pss_one (ps_ret (pe_lst (pa_cons (pe_str) (pa_cons (pv 0) (pa_cons (pe_str) pa_nil))))))), ?_⟩
  obtain ⟨a, xs, rfl, h1⟩ := exT o.rp
  obtain ⟨vs, ks, wf⟩ := o.wf
  refine asg_te (te_ixT (te_var rfl) te_c h1 (atI_nat (j := 0) rfl)) ?_
  refine set_sl (σ' := [some (.ref a), some (.str e.word)]) rfl ?_
  have yes : lev e = 7 → partP (.ref a) e = [.x (.ref a) e] := fun h => by unfold partP; rw [if_neg (by omega)]
  have no : lev e < 7 → partP (.ref a) e = [.t "(", .x (.ref a) e, .t ")"] := fun h => by unfold partP; rw [if_pos h]
  have fin1 : lev e = 7 → tRet (tLst (tCons (tVar 0) tNil)) { nx := fun x H' => Q V.non H', rt := Q } [some (.ref a), some (.str e.word)] H := fun h => ret_un (lst_un ((ta1 (te_var rfl)) _ ⟨by show 1 ≤ sizeLine; decide, fun p hp => k p _ (Same.upd hp) hp (by rw [yes h]; exact upd_same)⟩))
  have fin2 : lev e < 7 → tRet (tLst (tCons (tC (.str "(")) (tCons (tVar 0) (tCons (tC (.str ")")) tNil)))) { nx := fun x H' => Q V.non H', rt := Q } [some (.ref a), some (.str e.word)] H := fun h => ret_un (lst_un ((ta_cons te_c (ta_cons (te_var rfl) (ta1 te_c))) _ ⟨by show 3 ≤ sizeLine; decide, fun p hp => k p _ (Same.upd hp) hp (by rw [no h]; exact upd_same)⟩))
  have tT : ∀ {z : Str}, e.word = z → Tt (tTest (tOp rEq (tVar 1) (tC (.str z)))) [some (.ref a), some (.str e.word)] H true := fun h => tt_test (te_eqT (te_var (by rw [← h]; rfl)) te_c rfl)
  have tF : ∀ {z : Str}, e.word ≠ z → Tt (tTest (tOp rEq (tVar 1) (tC (.str z)))) [some (.ref a), some (.str e.word)] H false := fun h => tt_test (te_eqF (x := .str e.word) (te_var rfl) te_c rfl (fun q => h (V.str.inj q)))
  cases e with
  | num m =>
    obtain ⟨b, eb, h2⟩ := rp_num o.rp
    cases eb
    have tn : Tt (tTest (tOp (rI0 fun i j => V.bl (decide (j ≤ i))) (tOp (rIxT K) (tVar 0) (tC (.int 1))) (tC (.int 0)))) [some (.ref a), some (.str (Ex.num m).word)] H (decide (0 ≤ m)) := tt_test (te_i0 (te_ixT (te_var rfl) te_c h2 (v := .int m) (atI_nat (j := 1) rfl)) te_c)
    refine if_seq (b := decide (0 ≤ m)) (tt_or (a := false) (tF (show ("number" : Str) ≠ "local" by decide)) fun _ => tt_or (a := false) (tF (show ("number" : Str) ≠ "cell" by decide)) fun _ => tt_and (a := true) (tT rfl) fun _ => tn) (fun h => ?_) fun h => ?_
    · exact fin1 (by rw [lev_num, if_neg (by have := of_decide_eq_true h; omega)])
    · exact fin2 (by rw [lev_num, if_pos (by have := of_decide_eq_false h; omega)]; decide)
  | var u x =>
    obtain ⟨hu, _⟩ := wf
    subst hu
    exact if_seq (b := true) (tt_or (a := true) (b := false) (tT rfl) fun z => nomatch z) (fun h => fin1 rfl) fun h => nomatch h
  | cell z i =>
    exact if_seq (b := true) (tt_or (a := false) (tF (show ("cell" : Str) ≠ "local" by decide)) fun _ => tt_or (a := true) (b := false) (tT rfl) fun z => nomatch z) (fun h => fin1 rfl) fun h => nomatch h
  | one u b =>
    have hu := wf.1
    have l7 : lev (.one u b) < 7 := by
      simp only [Ex.words1, List.mem_cons, List.not_mem_nil, or_false] at hu
      rcases hu with rfl | rfl
      · show (2 : Int) < 7; decide
      · show (6 : Int) < 7; decide
    have nn : u ≠ "number" ∧ u ≠ "local" ∧ u ≠ "cell" := by
      simp only [Ex.words1, List.mem_cons, List.not_mem_nil, or_false] at hu
      rcases hu with rfl | rfl <;> exact ⟨by decide, by decide, by decide⟩
    exact if_seq (b := false) (tt_or (a := false) (tF nn.2.1) fun _ => tt_or (a := false) (tF nn.2.2) fun _ => tt_and (a := false) (b := false) (tF nn.1) fun z => nomatch z) (fun h => nomatch h) fun _ => fin2 l7
  | two u b c =>
    have hu := wf.1
    have l7 : lev (.two u b c) < 7 := by have := lev_two hu; show lvI u < 7; omega
    have nn : u ≠ "number" ∧ u ≠ "local" ∧ u ≠ "cell" := by
      simp only [Ex.words2, List.mem_cons, List.not_mem_nil, or_false] at hu
      rcases hu with rfl | rfl | rfl | rfl | rfl | rfl | rfl | rfl | rfl | rfl <;> exact ⟨by decide, by decide, by decide⟩
    exact if_seq (b := false) (tt_or (a := false) (tF nn.2.1) fun _ => tt_or (a := false) (tF nn.2.2) fun _ => tt_and (a := false) (b := false) (tF nn.1) fun z => nomatch z) (fun h => nomatch h) fun _ => fin2 l7
end
end K01

namespace K01
open PySem L2 YF YG
/-! ### the loose texts -/
theorem op_rep_str {X : Cx} : OpR X (binaryOp .Mult) (fun x y H Q => ∃ (z : Str) (k : Int), x = .str z ∧ y = .int k ∧ z.length = 1 ∧ 0 ≤ k ∧ k ≤ 10 ∧ Q (.str (PySem.Txt.mul z k)) H) := fun pins s σ H x y v u Q I r1 r2 h => by
  obtain ⟨z, k, rfl, rfl, hz, h0, h1, q⟩ := h
  obtain ⟨t, rfl⟩ := r1
  obtain ⟨t2, rfl⟩ := r2
  refine PySem.SB.mul ?_ fun t' n => ⟨.str (PySem.Txt.mul z k), H, I.tok _, ⟨_, rfl⟩, q⟩
  have c : k = 0 ∨ k = 1 ∨ k = 2 ∨ k = 3 ∨ k = 4 ∨ k = 5 ∨ k = 6 ∨ k = 7 ∨ k = 8 ∨ k = 9 ∨ k = 10 := by omega
  unfold PySem.MulOk
  rw [hz]
  rcases c with rfl | rfl | rfl | rfl | rfl | rfl | rfl | rfl | rfl | rfl | rfl <;> decide
/-! ### values -/
structure LdA (d : Addr) (B H0 H : Hp) : Prop where
  g : Grow [d] B H0 B H
  j : Ints [d] H
theorem LdA.same {d : Addr} {B H0 H H' : Hp} (l : LdA d B H0 H) (s : Same H H') : LdA d B H0 H' :=
  ⟨⟨Same.refl B, l.g.nh.trans s, fun a o n e => s _ _ (l.g.keep a o n e), fun a o e => by obtain ⟨o', e'⟩ := l.g.there a o e; exact ⟨o', s _ _ e'⟩, fun _ _ h => .inl h⟩, fun q hq => by obtain ⟨ns, e⟩ := l.j q hq; exact ⟨ns, s _ _ e⟩⟩
def spLo (K : PySem.W.Frag) (n : Nat) (T : List Str → List Str → Ex → Str → List Kt → Prop) : Sp := fun ws H Q _ => ∃ (d : Addr) (B : Hp) (v : V) (e : Ex) (vs ks : List Str), ws = [.ref d, v] ∧ Same B H ∧ Off [d] B ∧ Ints [d] H ∧ OkE K B v e n ∧ wfC vs ks e ∧
  ∀ z l H', LdA d B H H' → T vs ks e z l → Q (.str z) H'
theorem and_un2 {t u : TT} {σ : L2.St} {H : Hp} {Q : Bool → Hp → Prop} (h : t σ H fun c H1 => if c = true then u σ H1 Q else Q false H1) : tAnd t u σ H Q := h
theorem tx_small {vs ks : List Str} {e : Ex} {z : Str} {l : List Kt} (h : TxE vs ks e z l) (d : dpE e ≤ 9) : z.length ≤ 100000 := by
  have := h.ln
  have p : 2 ^ dpE e ≤ 2 ^ 9 := Nat.pow_le_pow_right (by decide) d
  omega
theorem ta_small {vs ks : List Str} {e : Ex} {z : Str} {l : List Kt} (h : TxA vs ks e z l) (d : dpE e ≤ 9) : z.length ≤ 100000 := by
  have := h.ln
  have p : 2 ^ dpE e ≤ 2 ^ 9 := Nat.pow_le_pow_right (by decide) d
  omega
theorem mul_sp {k : Int} (h0 : 0 ≤ k) (h1 : k < 2) : ∃ n : Nat, cs (PySem.Txt.mul " " k) = List.replicate n 32 ∧ n ≤ 1 ∧ (PySem.Txt.mul " " k).length ≤ 1 := by
  refine ⟨k.toNat, spc_cs h0 (by omega), by omega, ?_⟩
  rw [len_sp (spc_cs h0 (by omega))]
  omega
section
variable {P : Program} {w : World} {K : PySem.W.Frag} {mg : Str → Option Value} {base : Heap} {A : Adr} {n : Nat}
theorem f_lboxed (T : Txt K mg A) (h : FnOk P w K mg base CX0 (2 * n + 4) A.a__law_loose A.d__law_loose ["draws", "exp"] (spLo K n TxE)) : FnOk P w K mg base CX0 (2 * n + 5) A.a__law_boxed A.d__law_boxed ["draws", "exp"] (spLo K n TxA) := by
  refine T.F__law_boxed.ok (k := 2 * n + 4) sc_law_boxed (fun ws H Q E ⟨_, _, _, _, _, _, e, _⟩ => by rw [e]; rfl) (fun cdv A' outer s H ws Q E hr h' => ?_)
  obtain ⟨d, B, v, e, vs, ks, rfl, sB, oB, j0, o, wf, k⟩ := h'
  refine ⟨_, pss_cons (ps_set (i := 2) sc_law_boxed.nd rfl (Or.inl rfl) (pe_call h (hr.mono (by omega)) rfl T.g__law_loose T.F__law_loose.kp T.b__law_loose .nil pass0 (pa_cons (pv 0) (pa_cons (pv 1) pa_nil))))
  (pss_cons (ps_if (PW.pt (pw_or (pt_cmpR op_ne (pe_call (ok_law_sign T) (hr.mono (by omega)) rfl T.g__law_sign T.F__law_sign.kp T.b__law_sign .nil pass0 (pa_cons (pe_ix ix_tup (pv 1) (pe_int) (fun _ _ => rfl)) pa_nil)) (pe_str) (nomark _)) (pw_or (pt_cmpR op_in_seq (pe_ix ix_tup (pv 1) (pe_int) (fun _ _ => rfl)) (pe_lst (pa_cons (pe_str) (pa_cons (pe_str) pa_nil))) (by rfl)) (pw_or1 (PW.pt (pw_and (pt_cmpR op_eq (pe_ix ix_tup (pv 1) (pe_int) (fun _ _ => rfl)) (pe_str) (nomark _)) (pw_and1 (pt_cmpR op_lt (pe_ix ix_tup (pv 1) (pe_int) (fun _ _ => rfl)) (pe_int) (nomark _)))))))))
  (pss_one (ps_ret (pe_op op_add_str (pe_op op_add_str (pe_op op_add_str (pe_str) (pv 2)) (pe_op op_rep_str (pe_str) (pe_call (ok_law_take T) (hr.mono (by omega)) rfl T.g__law_take T.F__law_take.kp T.b__law_take .nil pass0 (pa_cons (pv 0) (pa_cons (pe_int) pa_nil))))) (pe_str))))
  (pss_nil))
  (pss_cons (ps_if (PW.pt (pw_and (pt_cmpR op_eq (pe_call (ok_law_take T) (hr.mono (by omega)) rfl T.g__law_take T.F__law_take.kp T.b__law_take .nil pass0 (pa_cons (pv 0) (pa_cons (pe_int) pa_nil))) (pe_int) (nomark _)) (pw_and1 (pt_cmpR op_ne (pe_ix ix_tup (pv 1) (pe_int) (fun _ _ => rfl)) (pe_str) (nomark _)))))
  (pss_one (ps_ret (pe_op op_add_str (pe_op op_add_str (pe_str) (pv 2)) (pe_str))))
  (pss_nil))
  (pss_one (ps_ret (pv 2))))), ?_⟩
  have sl : sizeLine = 16777216 := sizeLine_eq
  have d9 := o.d9
  refine asg_un (go_call (ta_cons (te_var rfl) (ta_cons (te_var rfl) ta_nil)) ⟨d, B, v, e, vs, ks, rfl, sB, oB, j0, o, wf, fun z l H1 ld tz => ?_⟩)
  refine set_sl (σ' := [some (.ref d), some v, some (.str z)]) rfl ?_
  have zs := tx_small tz d9
  refine sq_go (iff_un (low_un (i := 1) rfl (o.same ld.g.nh) fun H2 s2 => ?_))
  have ld2 := ld.same s2
  by_cases q : lev e < 7
  · rw [decide_eq_true q, if_pos rfl]
    refine ret_un (op_un (op_un (op_un (Te.go te_c (Te.go (te_var rfl) ⟨_, _, rfl, rfl, by show 1 + z.length ≤ _; omega, ?_⟩)))))
    refine op_un (Te.go te_c (take_call (B := B) (i := 0) (b := 2) rfl (fun _ h => h) ld2.g.nh oB ld2.j (by decide) fun y H3 y0 y1 g3 j3 _ => ?_))
    obtain ⟨m, em, m1, ml⟩ := mul_sp y0 y1
    refine ⟨_, _, rfl, rfl, rfl, y0, by omega, _, _, rfl, rfl, ?_, Te.go te_c ⟨_, _, rfl, rfl, ?_, ?_⟩⟩
    · rw [PySem.Str.length_append]
      show 1 + z.length + _ ≤ _
      omega
    · rw [PySem.Str.length_append, PySem.Str.length_append]
      show 1 + z.length + _ + 1 ≤ _
      omega
    · have tp := tz.par (s1 := "") (s2 := PySem.Txt.mul " " y) nil_sp em (by omega)
      rw [nil_app, ← app_as, ← app_as] at tp
      exact k _ _ _ ⟨ld2.g.trans g3, j3⟩ tp
  · rw [decide_eq_false q, if_neg Bool.false_ne_true]
    have h7 : lev e = 7 := by have := (lev_rng e).2; omega
    refine sq_go (iff_un (and_un2 (tst_un (op_un (take_call (B := B) (i := 0) (b := 6) rfl (fun _ h => h) ld2.g.nh oB ld2.j (by decide) fun y H3 y0 y1 g3 j3 _ => Te.go te_c ⟨rfl, _, rfl, ?_⟩)))))
    have ld3 : LdA d B H H3 := ⟨ld2.g.trans g3, j3⟩
    obtain ⟨a, xs, rfl, h1⟩ := exT (o.same ld3.g.nh).rp
    have tw : Te (tOp (rIxT K) (tVar 1) (tC (.int 0))) [some (.ref d), some (.ref a), some (.str z)] H3 (.str e.word) := te_ixT (te_var rfl) te_c h1 (atI_nat (j := 0) rfl)
    by_cases qy : y = 0
    · rw [if_pos (by rw [qy]; decide)]
      refine tst_un (te_ne tw te_c rfl _ ⟨_, rfl, ?_⟩)
      by_cases qc : e.word = "cell"
      · rw [if_neg (by rw [qc]; decide)]
        exact ret_te (te_var rfl) (k _ _ _ ld3 (tz.toA h7))
      · rw [if_pos (by rw [decide_eq_false (fun z => qc (V.str.inj z))]; rfl)]
        refine ret_un (op_un (op_un (Te.go te_c (Te.go (te_var rfl) ⟨_, _, rfl, rfl, by show 2 + z.length ≤ _; omega, Te.go te_c ⟨_, _, rfl, rfl, ?_, ?_⟩⟩))))
        · rw [PySem.Str.length_append]
          show 2 + z.length + 1 ≤ _
          omega
        · have tp := tz.par (s1 := " ") (s2 := "") (n1 := 1) (by decide +kernel) nil_sp (by decide)
          rw [nil_app, ← app_as, ← app_as] at tp
          exact k _ _ _ ld3 tp
    · rw [if_neg (by rw [decide_eq_false (fun z => qy (V.int.inj z))]; exact Bool.false_ne_true), if_neg Bool.false_ne_true]
      exact ret_te (te_var rfl) (k _ _ _ ld3 (tz.toA h7))
end
end K01

namespace K01
open PySem L2 YF YG
section
variable {P : Program} {w : World} {K : PySem.W.Frag} {mg : Str → Option Value} {base : Heap} {A : Adr} {n : Nat}
theorem lst_in {K : PySem.W.Frag} {σ : L2.St} {H : Hp} {ta : TE} {z : Str} {x y : Str} {Q : Bool → Hp → Prop} (ha : Te ta σ H (.str z)) (k : ∀ H', Same H H' → Q (decide (z ∈ ([x, y] : List Str))) H') : tTest (tOp (rIn K false) ta (tLst (tCons (tC (.str x)) (tCons (tC (.str y)) tNil)))) σ H Q :=
  tst_un (op_un (Te.go ha (lst_un ((ta_cons te_c (ta_cons te_c ta_nil)) _ ⟨by show 2 ≤ sizeLine; decide, fun p hp => ⟨p, _, rfl, .inl (SqL.of upd_same), rfl, rfl, _, rfl, by
    have := k _ (Same.upd hp (o := .lst [V.str x, V.str y]))
    rw [← inV_str] at this
    exact this⟩⟩))))
theorem gt_un {K : PySem.W.Frag} {E : XK} {σ : L2.St} {d : Addr} {B H0 H : Hp} {u : Str} {Q : Bool → Hp → Prop} (h0 : σ[0]? = some (some (.ref d))) (h2 : σ[2]? = some (some (.str u))) (ld : LdA d B H0 H) (oB : Off [d] B) (kt : u = "less" ∨ u = "atmost" → ∀ G, LdA d B H0 G → Q true G) (kf : ∀ G, LdA d B H0 G → Q false G) :
    tAnd (tTest (tOp (rIn K false) (tVar 2) (tLst (tCons (tC (.str "less")) (tCons (tC (.str "atmost")) tNil))))) (tTest (tOp rEq (tCall (spTake K) [] E (tCons (tVar 0) (tCons (tC (.int 2)) tNil))) (tC (.int 0)))) σ H Q := by
  refine and_un2 (lst_in (te_var h2) fun G1 s1 => ?_)
  have ld1 := ld.same s1
  by_cases hu : u ∈ (["less", "atmost"] : List Str)
  · rw [decide_eq_true hu, if_pos rfl]
    refine tst_un (op_un (take_call (B := B) (i := 0) (b := 2) h0 (fun _ h => h) ld1.g.nh oB ld1.j (by decide) fun y H3 y0 y1 g3 j3 _ => Te.go te_c ⟨rfl, _, rfl, ?_⟩))
    have ld3 : LdA d B H0 H3 := ⟨ld1.g.trans g3, j3⟩
    by_cases qy : y = 0
    · rw [decide_eq_true (by rw [qy])]
      exact kt (by simpa using hu) _ ld3
    · rw [decide_eq_false (fun z => qy (V.int.inj z))]
      exact kf _ ld3
  · rw [decide_eq_false hu, if_neg Bool.false_ne_true]
    exact kf _ ld1
theorem f_lloose (T : Txt K mg A) (h : FnOk P w K mg base CX0 (2 * n + 4) A.a__law_loose A.d__law_loose ["draws", "exp"] (spLo K n TxE)) (hb : FnOk P w K mg base CX0 (2 * n + 5) A.a__law_boxed A.d__law_boxed ["draws", "exp"] (spLo K n TxA)) (hw : FnOk P w K mg base CX0 (2 * n + 4) A.a__law_written A.d__law_written ["exp"] (spWr K (n + 1) wrT)) : FnOk P w K mg base CX0 (2 * n + 6) A.a__law_loose A.d__law_loose ["draws", "exp"] (spLo K (n + 1) TxE) := by
  refine T.F__law_loose.ok (k := 2 * n + 5) sc_law_loose (fun ws H Q E ⟨_, _, _, _, _, _, e, _⟩ => by rw [e]; rfl) (fun cdv A' outer s H ws Q E hr h' => ?_)
  obtain ⟨d, B, v, e, vs, ks, rfl, sB, oB, j0, o, wf, k⟩ := h'
  refine ⟨_, pss_cons (ps_set (i := 2) sc_law_loose.nd rfl (Or.inl rfl) (pe_ix ix_tup (pv 1) (pe_int) (fun _ _ => rfl)))
  (pss_cons (ps_if (PW.pt (pw_and (pt_cmpR op_in_seq (pv 2) (pe_lst (pa_cons (pe_str) (pa_cons (pe_str) pa_nil))) (by rfl)) (pw_and1 (pt_cmpR op_eq (pe_call (ok_law_take T) (hr.mono (by omega)) rfl T.g__law_take T.F__law_take.kp T.b__law_take .nil pass0 (pa_cons (pv 0) (pa_cons (pe_int) pa_nil))) (pe_int) (nomark _)))))
  (pss_cons (ps_set (i := 3) sc_law_loose.nd rfl (Or.inl rfl) (pe_call hb (hr.mono (by omega)) rfl T.g__law_boxed T.F__law_boxed.kp T.b__law_boxed .nil pass0 (pa_cons (pv 0) (pa_cons (pe_ix ix_tup (pv 1) (pe_int) (fun _ _ => rfl)) pa_nil))))
  (pss_one (ps_ret (pe_op op_add_str (pe_op op_add_str (pv 3) (pe_ix ix_list (pe_lst (pa_cons (pe_str) (pa_cons (pe_str) pa_nil))) (pe_callTy call_int1 (by rfl) T.n_int (by decide +kernel) (pa_cons (pe_cmpR op_eq (pv 2) (pe_str) (nomark _)) pa_nil)) (fun _ _ => rfl))) (pe_call hb (hr.mono (by omega)) rfl T.g__law_boxed T.F__law_boxed.kp T.b__law_boxed .nil pass0 (pa_cons (pv 0) (pa_cons (pe_ix ix_tup (pv 1) (pe_int) (fun _ _ => rfl)) pa_nil)))))))
  (pss_nil))
  (pss_cons (ps_if (PW.pt (pw_and (pt_cmpR op_eq (pv 2) (pe_str) (nomark _)) (pw_and1 (pt_cmpR op_eq (pe_call (ok_law_take T) (hr.mono (by omega)) rfl T.g__law_take T.F__law_take.kp T.b__law_take .nil pass0 (pa_cons (pv 0) (pa_cons (pe_int) pa_nil))) (pe_int) (nomark _)))))
  (pss_one (ps_ret (pe_op op_add_str (pe_op op_add_str (pe_op op_add_str (pe_ix ix_tup (pv 1) (pe_int) (fun _ _ => rfl)) (pe_str)) (pe_call h (hr.mono (by omega)) rfl T.g__law_loose T.F__law_loose.kp T.b__law_loose .nil pass0 (pa_cons (pv 0) (pa_cons (pe_ix ix_tup (pv 1) (pe_int) (fun _ _ => rfl)) pa_nil)))) (pe_str))))
  (pss_nil))
  (pss_cons (ps_if (pt_cmpR op_ne (pe_call (ok_law_sign T) (hr.mono (by omega)) rfl T.g__law_sign T.F__law_sign.kp T.b__law_sign .nil pass0 (pa_cons (pv 2) pa_nil)) (pe_str) (nomark _))
  (pss_cons (ps_set (i := 4) sc_law_loose.nd rfl (Or.inl rfl) (pe_call hb (hr.mono (by omega)) rfl T.g__law_boxed T.F__law_boxed.kp T.b__law_boxed .nil pass0 (pa_cons (pv 0) (pa_cons (pe_ix ix_tup (pv 1) (pe_int) (fun _ _ => rfl)) pa_nil))))
  (pss_one (ps_ret (pe_op op_add_str (pe_op op_add_str (pe_op op_add_str (pv 4) (pe_op op_rep_str (pe_str) (pe_call (ok_law_take T) (hr.mono (by omega)) rfl T.g__law_take T.F__law_take.kp T.b__law_take .nil pass0 (pa_cons (pv 0) (pa_cons (pe_int) pa_nil))))) (pe_call (ok_law_sign T) (hr.mono (by omega)) rfl T.g__law_sign T.F__law_sign.kp T.b__law_sign .nil pass0 (pa_cons (pv 2) pa_nil))) (pe_call hb (hr.mono (by omega)) rfl T.g__law_boxed T.F__law_boxed.kp T.b__law_boxed .nil pass0 (pa_cons (pv 0) (pa_cons (pe_ix ix_tup (pv 1) (pe_int) (fun _ _ => rfl)) pa_nil)))))))
  (pss_nil))
  (pss_cons (ps_if (pt_cmpR op_eq (pv 2) (pe_str) (nomark _))
  (pss_one (ps_ret (pe_op op_add_str (pe_str) (pe_call hb (hr.mono (by omega)) rfl T.g__law_boxed T.F__law_boxed.kp T.b__law_boxed .nil pass0 (pa_cons (pv 0) (pa_cons (pe_ix ix_tup (pv 1) (pe_int) (fun _ _ => rfl)) pa_nil))))))
  (pss_nil))
  (pss_cons (ps_if (pt_cmpR op_eq (pv 2) (pe_str) (nomark _))
  (pss_one (ps_ret (pe_op op_add_str (pe_op op_add_str (pe_str) (pe_call h (hr.mono (by omega)) rfl T.g__law_loose T.F__law_loose.kp T.b__law_loose .nil pass0 (pa_cons (pv 0) (pa_cons (pe_ix ix_tup (pv 1) (pe_int) (fun _ _ => rfl)) pa_nil)))) (pe_str))))
  (pss_nil))
  (pss_one (ps_ret (pe_call hw (hr.mono (by omega)) rfl T.g__law_written T.F__law_written.kp T.b__law_written .nil pass0 (pa_cons (pv 1) pa_nil))))))))), ?_⟩
  have sl : sizeLine = 16777216 := sizeLine_eq
  have d9 := o.d9
  have oH := o.same sB
  obtain ⟨a, xs, rfl, hB⟩ := exT o.rp
  have ld0 : LdA d B H H := ⟨Grow.refl sB, j0⟩
  refine asg_te (te_ixT (te_var rfl) te_c (Same.sqT sB hB) (atI_nat (j := 0) rfl)) ?_
  refine set_sl (σ' := [some (.ref d), some (.ref a), some (.str e.word), none, none]) rfl ?_
  -- what is left for the words that are not exchanged
  have written : ∀ {G : Hp} {σ : L2.St}, LdA d B H G → σ[1]? = some (some (.ref a)) → tCall (spWr K (n + 1) wrT) [] E0 (tCons (tVar 1) tNil) σ G Q := fun {G σ} ld hσ => by
    obtain ⟨l, t⟩ := tE_wr wf
    exact go_call (ta1 (te_var hσ)) ⟨.ref a, e, rfl, o.same ld.g.nh, fun H' s' => k _ _ _ (ld.same s') t⟩
  have nw : ∀ {u z : Str}, u ≠ z → V.str u ≠ V.str z := fun h q => h (V.str.inj q)
  have LT : ∀ {G1 G2 : Hp}, LdA d B H G1 → LdA d B G1 G2 → LdA d B H G2 := fun a b => ⟨a.g.trans b.g, b.j⟩
  refine sq_go (iff_un (gt_un (u := e.word) rfl rfl ld0 oB (fun hu G1 ld1 => ?_) fun G1 ld1 => ?_))
  · rw [if_pos rfl]
    have two : ∃ u b c, e = .two u b c := by
      cases e with
      | num m => rcases hu with h | h <;> exact absurd h (by show ("number" : Str) ≠ _; decide)
      | var u x =>
        obtain ⟨hw, _⟩ := wf
        subst hw
        rcases hu with h | h <;> exact absurd h (by show ("local" : Str) ≠ _; decide)
      | cell z i => rcases hu with h | h <;> exact absurd h (by show ("cell" : Str) ≠ _; decide)
      | one u b =>
        have h1 := wf.1
        have hu : u = "less" ∨ u = "atmost" := hu
        rcases hu with h | h <;> (rw [h] at h1; exact absurd h1 (by decide))
      | two u b c => exact ⟨u, b, c, rfl⟩
    obtain ⟨u, b, c, rfl⟩ := two
    obtain ⟨hu2, wb, wc⟩ := id wf
    have hu : u = "less" ∨ u = "atmost" := hu
    obtain ⟨a', x, y, ea, h1, rb, rc⟩ := rp_two o.rp
    cases ea
    obtain ⟨ob, oc⟩ := o.two rb rc
    refine asg_un (go_call (ta_cons (te_var rfl) (ta1 (te_ixT (te_var rfl) te_c (Same.sqT ld1.g.nh h1) (v := y) (atI_nat (j := 2) rfl)))) ⟨d, B, y, c, vs, ks, rfl, ld1.g.nh, oB, ld1.j, oc, wc, fun zc lc G2 ld2 tc => ?_⟩)
    have L2 := LT ld1 ld2
    dsimp only
    refine set_sl (σ' := [some (.ref d), some (.ref a), some (.str u), some (.str zc), none]) rfl ?_
    have zs := ta_small tc oc.d9
    refine ret_un (op_un (op_un (Te.go (te_var rfl) (op_un (lst_un ((ta_cons te_c (ta_cons te_c ta_nil)) _ ⟨by show 2 ≤ sizeLine; decide, fun q hq => ?_⟩))))))
    have s3 : Same G2 (upd G2 q (.lst [.str ">", .str " >="])) := Same.upd hq
    have e3 : upd G2 q (.lst [.str ">", .str " >="]) q = some (.lst [.str ">", .str " >="]) := upd_same
    have L3 := L2.same s3
    show tCB _ _ _ (upd G2 q (.lst [.str ">", .str " >="])) _
    generalize upd G2 q (.lst [.str ">", .str " >="]) = G3 at s3 e3 L3 ⊢
    have eat : atI [V.str ">", V.str " >="] (if decide (V.str u = V.str "atmost") = true then 1 else 0) = some (.str (gtT u)) := by
      rcases hu with rfl | rfl <;> rfl
    refine (ta1 (te_eq (te_var rfl) te_c rfl)) _ (.inr ⟨_, rfl, q, _, _, _, rfl, rfl, SqL.of e3, eat, ?_⟩)
    have lgt : (gtT u).length ≤ 3 := by rcases hu with rfl | rfl <;> decide
    refine ⟨_, _, rfl, rfl, by omega, ?_⟩
    refine go_call (ta_cons (te_var rfl) (ta1 (te_ixT (te_var rfl) te_c (Same.sqT L3.g.nh h1) (v := x) (atI_nat (j := 1) rfl)))) ⟨d, B, x, b, vs, ks, rfl, L3.g.nh, oB, L3.j, ob, wb, fun zb lb G4 ld4 tb => ?_⟩
    have zs2 := ta_small tb ob.d9
    have tg := tE_gt hu tb tc
    rw [← app_as] at tg
    exact ⟨_, _, rfl, rfl, by rw [PySem.Str.length_append]; omega, k _ _ _ (LT L3 ld4) tg⟩
  rw [if_neg Bool.false_ne_true]
  cases e with
  | num m =>
    show tSeq _ _ _ _ _
    refine sq_go (iff_un (YG.and_un (b := false) (tt_test (te_eqF (x := .str "number") (te_var rfl) te_c rfl (nw (by decide)))) (fun z => nomatch z) fun _ => ?_))
    rw [if_neg Bool.false_ne_true]
    show tSeq _ _ _ _ _
    refine ifs_un (op_un (go_call (ta1 (te_var rfl)) ⟨"number", rfl, fun G2 s2 => Te.go te_c ⟨rfl, _, rfl, ?_⟩⟩))
    rw [if_neg (by decide +kernel)]
    refine if_seq (b := false) (tt_test (te_eqF (x := .str "number") (te_var rfl) te_c rfl (nw (by decide)))) (fun z => nomatch z) fun _ => ?_
    refine if_seq (b := false) (tt_test (te_eqF (x := .str "number") (te_var rfl) te_c rfl (nw (by decide)))) (fun z => nomatch z) fun _ => ?_
    exact ret_un (written (ld1.same s2) rfl)
  | var u x =>
    obtain ⟨hu, _⟩ := id wf
    subst hu
    show tSeq _ _ _ _ _
    refine sq_go (iff_un (YG.and_un (b := false) (tt_test (te_eqF (x := .str "local") (te_var rfl) te_c rfl (nw (by decide)))) (fun z => nomatch z) fun _ => ?_))
    rw [if_neg Bool.false_ne_true]
    show tSeq _ _ _ _ _
    refine ifs_un (op_un (go_call (ta1 (te_var rfl)) ⟨"local", rfl, fun G2 s2 => Te.go te_c ⟨rfl, _, rfl, ?_⟩⟩))
    rw [if_neg (by decide +kernel)]
    refine if_seq (b := false) (tt_test (te_eqF (x := .str "local") (te_var rfl) te_c rfl (nw (by decide)))) (fun z => nomatch z) fun _ => ?_
    refine if_seq (b := false) (tt_test (te_eqF (x := .str "local") (te_var rfl) te_c rfl (nw (by decide)))) (fun z => nomatch z) fun _ => ?_
    exact ret_un (written (ld1.same s2) rfl)
  | cell z i =>
    obtain ⟨hn, hc, hv, wi⟩ := id wf
    obtain ⟨a', x, ea, h1, ri⟩ := rp_cell o.rp
    cases ea
    have oi := o.cell ri
    show tSeq _ _ _ _ _
    refine sq_go (iff_un (YG.and_un (b := true) (tt_test (te_eqT (x := .str "cell") (te_var rfl) te_c rfl)) (fun _ => ?_) (fun z => nomatch z)))
    refine tst_un (op_un (take_call (B := B) (i := 0) (b := 2) rfl (fun _ h => h) ld1.g.nh oB ld1.j (by decide) fun y H3 y0 y1 g3 j3 _ => Te.go te_c ⟨rfl, _, rfl, ?_⟩))
    have ld3 : LdA d B H H3 := ⟨ld1.g.trans g3, j3⟩
    have h3 := Same.sqT ld3.g.nh h1
    by_cases qy : y = 0
    · rw [if_pos (by rw [qy]; decide)]
      have hz := hn.2.1
      refine ret_un (op_un (op_un (op_un (Te.go (te_ixT (te_var rfl) te_c h3 (v := .str z) (atI_nat (j := 1) rfl)) (Te.go te_c ⟨_, _, rfl, rfl, by show z.length + 2 ≤ _; omega, ?_⟩)))))
      refine go_call (ta_cons (te_var rfl) (ta1 (te_ixT (te_var rfl) te_c h3 (v := x) (atI_nat (j := 2) rfl)))) ⟨d, B, x, i, vs, ks, rfl, ld3.g.nh, oB, ld3.j, oi, wi, fun zi li H4 ld4 ti => ?_⟩
      have zs := tx_small ti oi.d9
      refine ⟨_, _, rfl, rfl, by rw [PySem.Str.length_append]; show z.length + 2 + zi.length ≤ _; omega, Te.go te_c ⟨_, _, rfl, rfl, by rw [PySem.Str.length_append, PySem.Str.length_append]; show z.length + 2 + zi.length + 2 ≤ _; omega, ?_⟩⟩
      have tc := tE_cell hn hc hv ti (s1 := " ") (s2 := " ") (n1 := 1) (n2 := 1) (by decide +kernel) (by decide +kernel) (by decide)
      have e1 : z ++ (" " ++ ("(" ++ (zi ++ (" " ++ ")")))) = z ++ " (" ++ zi ++ " )" := by
        rw [app_as, app_as, ← app_as " " "("]
        rfl
      rw [e1] at tc
      exact k _ _ _ (LT ld3 ld4) tc
    · rw [if_neg (by rw [decide_eq_false (fun z => qy (V.int.inj z))]; exact Bool.false_ne_true)]
      show tSeq _ _ _ _ _
      refine ifs_un (op_un (go_call (ta1 (te_var rfl)) ⟨"cell", rfl, fun G2 s2 => Te.go te_c ⟨rfl, _, rfl, ?_⟩⟩))
      rw [if_neg (by decide +kernel)]
      refine if_seq (b := false) (tt_test (te_eqF (x := .str "cell") (te_var rfl) te_c rfl (nw (by decide)))) (fun z => nomatch z) fun _ => ?_
      refine if_seq (b := false) (tt_test (te_eqF (x := .str "cell") (te_var rfl) te_c rfl (nw (by decide)))) (fun z => nomatch z) fun _ => ?_
      exact ret_un (written (ld3.same s2) rfl)
  | one u b =>
    obtain ⟨hu, wb⟩ := id wf
    obtain ⟨a', x, ea, h1, rb⟩ := rp_one o.rp
    cases ea
    have ob := o.one rb
    have nc : u ≠ "cell" := by
      simp only [Ex.words1, List.mem_cons, List.not_mem_nil, or_false] at hu
      rcases hu with rfl | rfl <;> decide
    have sg0 : sg u = "" := by
      simp only [Ex.words1, List.mem_cons, List.not_mem_nil, or_false] at hu
      rcases hu with rfl | rfl <;> decide +kernel
    show tSeq _ _ _ _ _
    refine sq_go (iff_un (YG.and_un (b := false) (tt_test (te_eqF (x := .str u) (te_var rfl) te_c rfl (nw nc))) (fun z => nomatch z) fun _ => ?_))
    rw [if_neg Bool.false_ne_true]
    show tSeq _ _ _ _ _
    refine ifs_un (op_un (go_call (ta1 (te_var rfl)) ⟨u, rfl, fun G2 s2 => Te.go te_c ⟨rfl, _, rfl, ?_⟩⟩))
    rw [sg0, if_neg (by decide)]
    have ld2 := ld1.same s2
    have h2 := Same.sqT ld2.g.nh h1
    by_cases q : u = "not"
    · subst q
      refine if_seq (b := true) (tt_test (te_eqT (x := .str "not") (te_var rfl) te_c rfl)) (fun _ => ?_) (fun z => nomatch z)
      refine ret_un (op_un (Te.go te_c (go_call (ta_cons (te_var rfl) (ta1 (te_ixT (te_var rfl) te_c h2 (v := x) (atI_nat (j := 1) rfl)))) ⟨d, B, x, b, vs, ks, rfl, ld2.g.nh, oB, ld2.j, ob, wb, fun zb lb H4 ld4 tb => ?_⟩)))
      have zs := ta_small tb ob.d9
      refine ⟨_, _, rfl, rfl, by show 5 + zb.length ≤ _; omega, ?_⟩
      have tn := tE_not tb (s := "  ") (n := 2) (by decide +kernel) (by decide) (by decide)
      rw [← app_as] at tn
      exact k _ _ _ (LT ld2 ld4) tn
    · have hu : u = "negative" := by
        simp only [Ex.words1, List.mem_cons, List.not_mem_nil, or_false] at hu
        exact hu.resolve_left q
      subst hu
      refine if_seq (b := false) (tt_test (te_eqF (x := .str "negative") (te_var rfl) te_c rfl (nw (by decide)))) (fun z => nomatch z) fun _ => ?_
      refine if_seq (b := true) (tt_test (te_eqT (x := .str "negative") (te_var rfl) te_c rfl)) (fun _ => ?_) (fun z => nomatch z)
      refine ret_un (op_un (op_un (Te.go te_c (go_call (ta_cons (te_var rfl) (ta1 (te_ixT (te_var rfl) te_c h2 (v := x) (atI_nat (j := 1) rfl)))) ⟨d, B, x, b, vs, ks, rfl, ld2.g.nh, oB, ld2.j, ob, wb, fun zb lb H4 ld4 tb => ?_⟩))))
      have zs := tx_small tb ob.d9
      refine ⟨_, _, rfl, rfl, by show 3 + zb.length ≤ _; omega, Te.go te_c ⟨_, _, rfl, rfl, by rw [PySem.Str.length_append]; show 3 + zb.length + 1 ≤ _; omega, ?_⟩⟩
      have tn := tE_neg (tA_par tb) (s := " ") (n := 1) (by decide +kernel) (by decide) (.inr ⟨_, rfl⟩)
      have e1 : "-" ++ (" " ++ ("(" ++ zb ++ ")")) = "- (" ++ zb ++ ")" := by
        rw [app_as, ← app_as " " "(", ← app_as "-", ← app_as]
        rfl
      rw [e1] at tn
      exact k _ _ _ (LT ld2 ld4) tn
  | two u b c =>
    obtain ⟨hu, wb, wc⟩ := id wf
    obtain ⟨a', x, y, ea, h1, rb, rc⟩ := rp_two o.rp
    cases ea
    obtain ⟨ob, oc⟩ := o.two rb rc
    have lg := len_sg u hu
    have nc : u ≠ "cell" := fun z => by rw [z] at hu; exact absurd hu (by decide)
    have sg1 : (!decide (V.str (sg u) = V.str "")) = true := by
      simp only [Ex.words2, List.mem_cons, List.not_mem_nil, or_false] at hu
      rcases hu with rfl | rfl | rfl | rfl | rfl | rfl | rfl | rfl | rfl | rfl <;> decide +kernel
    show tSeq _ _ _ _ _
    refine sq_go (iff_un (YG.and_un (b := false) (tt_test (te_eqF (x := .str u) (te_var rfl) te_c rfl (nw nc))) (fun z => nomatch z) fun _ => ?_))
    rw [if_neg Bool.false_ne_true]
    show tSeq _ _ _ _ _
    refine ifs_un (op_un (go_call (ta1 (te_var rfl)) ⟨u, rfl, fun G2 s2 => Te.go te_c ⟨rfl, _, rfl, ?_⟩⟩))
    rw [sg1, if_pos rfl]
    have ld2 := ld1.same s2
    refine asg_un (go_call (ta_cons (te_var rfl) (ta1 (te_ixT (te_var rfl) te_c (Same.sqT ld2.g.nh h1) (v := x) (atI_nat (j := 1) rfl)))) ⟨d, B, x, b, vs, ks, rfl, ld2.g.nh, oB, ld2.j, ob, wb, fun zb lb G3 ld3 tb => ?_⟩)
    have L3 := LT ld2 ld3
    dsimp only
    refine set_sl (σ' := [some (.ref d), some (.ref a), some (.str u), none, some (.str zb)]) rfl ?_
    have zs := ta_small tb ob.d9
    refine ret_un (op_un (op_un (op_un (Te.go (te_var rfl) (op_un (Te.go te_c (take_call (B := B) (i := 0) (b := 2) rfl (fun _ h => h) L3.g.nh oB L3.j (by decide) fun q G4 y0 y1 g4 j4 _ => ?_)))))))
    have L4 : LdA d B H G4 := ⟨L3.g.trans g4, j4⟩
    obtain ⟨m, em, m1, ml⟩ := mul_sp y0 y1
    refine ⟨_, _, rfl, rfl, rfl, y0, by omega, _, _, rfl, rfl, by omega, ?_⟩
    refine go_call (ta1 (te_var rfl)) ⟨u, rfl, fun G5 s5 => ⟨_, _, rfl, rfl, by rw [PySem.Str.length_append]; omega, ?_⟩⟩
    have L5 := L4.same s5
    refine go_call (ta_cons (te_var rfl) (ta1 (te_ixT (te_var rfl) te_c (Same.sqT L5.g.nh h1) (v := y) (atI_nat (j := 2) rfl)))) ⟨d, B, y, c, vs, ks, rfl, L5.g.nh, oB, L5.j, oc, wc, fun zc lc G6 ld6 tc => ?_⟩
    have zs2 := ta_small tc oc.d9
    have tt := tE_two hu tb tc em m1
    rw [← app_as, ← app_as] at tt
    exact ⟨_, _, rfl, rfl, by rw [PySem.Str.length_append, PySem.Str.length_append]; omega, k _ _ _ (LT L5 ld6) tt⟩
theorem ok_law_loose (T : Txt K mg A) : ∀ n, FnOk P w K mg base CX0 (2 * n + 4) A.a__law_loose A.d__law_loose ["draws", "exp"] (spLo K n TxE)
  | 0 => ⟨fun ws H Q E ⟨_, _, _, _, _, _, _, _, _, _, o, _⟩ => absurd o.dn (Nat.not_lt_zero _), fun _ _ _ _ _ _ _ _ _ _ _ _ _ ⟨_, _, _, _, _, _, _, _, _, _, o, _⟩ => absurd o.dn (Nat.not_lt_zero _)⟩
  | n + 1 => f_lloose T (ok_law_loose T n) (f_lboxed T (ok_law_loose T n)) (ok_law_written T (n + 1))
end
end K01

namespace K01
open PySem L2 YF YG
/-! ### the lines of the program -/
theorem sp1 : cs (" " : Str) = List.replicate 1 32 := by decide +kernel
theorem lf_ws {a b k : Str} {lb : List Kt} (g : Good k a) (hb : LexF b lb) : LexF (a ++ (" " ++ b)) ((k, a) :: lb) := lf_good g (lf_sp sp1 hb) (sp_sep sp1 (.inl (by decide)) _)
def gw (z : Str) : Prop := (cs z).all (inS lets) = true ∧ 0 < z.length ∧ z.length ≤ 12
theorem good_gw {z : Str} (h : gw z) : Good "word" z := good_word (List.all_eq_true.mp h.1) h.2.1 h.2.2
def lnC (nm : Str) : Str := "cell " ++ nm ++ " = 0"
def lnD (nm : Str) : Str := "cell " ++ nm ++ " 3 = 5"
def lnT (nm : Str) : Str := "thread " ++ nm
def lnL (nm : Str) : Str := "local " ++ nm ++ " = 0"
def lnX (z : Str) : Str := "later " ++ z
def kC (nm : Str) : List Kt := [("word", "cell"), ("word", nm), ("sign", "="), ("number", "0")]
def kD (nm : Str) : List Kt := [("word", "cell"), ("word", nm), ("number", "3"), ("sign", "="), ("number", "5")]
def kL (nm : Str) : List Kt := [("word", "local"), ("word", nm), ("sign", "="), ("number", "0")]
def kT (nm : Str) : List Kt := [("word", "thread"), ("word", nm)]
def kX : Kt := ("word", "later")
def zAt : Str := "atomic"
def zEn : Str := "end"
theorem lexC {nm : Str} (h : NameOk nm) : LexF (lnC nm) (kC nm) := by
  have e : lnC nm = "cell" ++ (" " ++ (nm ++ (" " ++ ("=" ++ (" " ++ "0"))))) := by
    have e1 : lnC nm = "cell" ++ " " ++ nm ++ (" " ++ ("=" ++ (" " ++ "0"))) := rfl
    rw [e1, app_as, app_as]
  rw [e]
  exact lf_ws (good_gw (by unfold gw; decide +kernel)) (lf_ws (name_good h) (lf_ws (good_signs "=" (by decide)) (lf_one (good_num' (by decide +kernel)))))
theorem lexD {nm : Str} (h : NameOk nm) : LexF (lnD nm) (kD nm) := by
  have e : lnD nm = "cell" ++ (" " ++ (nm ++ (" " ++ ("3" ++ (" " ++ ("=" ++ (" " ++ "5"))))))) := by
    have e1 : lnD nm = "cell" ++ " " ++ nm ++ (" " ++ ("3" ++ (" " ++ ("=" ++ (" " ++ "5"))))) := rfl
    rw [e1, app_as, app_as]
  rw [e]
  exact lf_ws (good_gw (by unfold gw; decide +kernel)) (lf_ws (name_good h) (lf_ws (good_num' (by decide +kernel)) (lf_ws (good_signs "=" (by decide)) (lf_one (good_num' (by decide +kernel))))))
theorem lexT {nm : Str} (h : NameOk nm) : LexF (lnT nm) (kT nm) := by
  have e : lnT nm = "thread" ++ (" " ++ nm) := by rw [← app_as]; rfl
  rw [e]
  exact lf_ws (good_gw (by unfold gw; decide +kernel)) (lf_one (name_good h))
theorem lexL {nm : Str} (h : NameOk nm) : LexF (lnL nm) (kL nm) := by
  have e : lnL nm = "local" ++ (" " ++ (nm ++ (" " ++ ("=" ++ (" " ++ "0"))))) := by
    have e1 : lnL nm = "local" ++ " " ++ nm ++ (" " ++ ("=" ++ (" " ++ "0"))) := rfl
    rw [e1, app_as, app_as]
  rw [e]
  exact lf_ws (good_gw (by unfold gw; decide +kernel)) (lf_ws (name_good h) (lf_ws (good_signs "=" (by decide)) (lf_one (good_num' (by decide +kernel)))))
theorem lexX {z : Str} {l : List Kt} (h : LexF z l) : LexF (lnX z) (kX :: l) := by
  have e : lnX z = "later" ++ (" " ++ z) := by rw [← app_as]; rfl
  rw [e]
  exact lf_ws (good_gw (by unfold gw; decide +kernel)) h
theorem lexAt : LexF "atomic" [("word", "atomic")] := lf_one (good_gw (by unfold gw; decide +kernel))
theorem lexEnd : LexF "end" [("word", "end")] := lf_one (good_gw (by unfold gw; decide +kernel))
/-- the whole line is read -/
theorem later_rd {X : Tx} {e : Ex} {l : List Kt} (r : RdL X e l) (hd : HdK l (lev e)) (h : kts X.ts = kX :: l) (d : dpE e ≤ 10) {n : Nat} (hn : 2 * dpE e < n) : (LE X n).ex 0 1 e X.ts.length := by
  obtain ⟨n', rfl⟩ : ∃ n', n = n' + 1 := ⟨n - 1, by omega⟩
  have p := (PAt.of h).tail
  have hl : X.ts.length = 0 + 1 + l.length := by
    have := kts_len h
    rw [List.length_cons] at this
    omega
  have t : tx X.ts X.ts.length = "" := by
    unfold tx
    rw [List.getElem?_eq_none (Nat.le_refl _)]
  have h0 := r.all hd (n := n') (mo := 0) (by omega) (by omega) p hl (by rw [t]; decide +kernel) (by rw [t]; decide +kernel)
  rw [Nat.zero_add] at h0
  exact h0
def linesB (a b t : Str) (vs : List Str) (z : Str) : List Str := lnC a :: lnD b :: lnT t :: (vs.map lnL ++ [zAt, lnX z, zEn, zEn])
theorem int_at {ts : List Tk} {l : List Kt} (h : kts ts = l) {i : Nat} {z : Str} {m : Int} (hi : l[i]? = some ((("number" : Str), z) : Kt)) (hz : z ≠ "-" ∧ z.length ≤ 640 ∧ intText? z = some m) : IntAt ts i m (i + 1) := by
  have t := kts_tx h i
  have n := kts_isN h i
  rw [hi] at t n
  exact .inl ⟨by rw [t]; exact hz.1, by rw [n]; rfl, by rw [t]; exact hz.2.1, by rw [t]; exact hz.2.2, rfl⟩
theorem prg_of {a b t : Str} {vs : List Str} {e : Ex} {z : Str} {l : List Kt} (ha : NameOk a) (hb : NameOk b) (ht : NameOk t) (hab : b ≠ a) (hv : ∀ v ∈ vs, NameOk v ∧ v ∉ [a, b]) (nd : vs.Nodup) (hl : vs.length ≤ 10) (tx' : TxE vs [a, b] e z l) (d : dpE e ≤ 4) : ∃ p : PrgB 9, p.rows = linesB a b t vs z ∧ p.e = e := by
  obtain ⟨t1, s1, k1⟩ := lf_line (lexC ha)
  obtain ⟨t2, s2, k2⟩ := lf_line (lexD hb)
  obtain ⟨tt, st, et⟩ := lf_line (lexT ht)
  obtain ⟨ta, sa, ka⟩ := lf_line lexAt
  obtain ⟨tl, sl, kl'⟩ := lf_line (lexX tx'.lx)
  obtain ⟨te, se, ee⟩ := lf_line lexEnd
  have hL : ∀ v : Str, ∃ ts, NameOk v → Scan 0 (cs (lnL v)) ts none ∧ kts ts = kL v := fun v => by
    by_cases h : NameOk v
    · obtain ⟨ts, q⟩ := lf_line (lexL h)
      exact ⟨ts, fun _ => q⟩
    · exact ⟨[], fun q => absurd q h⟩
  obtain ⟨f, hf⟩ := Classical.axiomOfChoice hL
  have n0 : ("0" : Str) ≠ "-" ∧ ("0" : Str).length ≤ 640 ∧ intText? ("0" : Str) = some 0 := by decide +kernel
  have n3 : ("3" : Str) ≠ "-" ∧ ("3" : Str).length ≤ 640 ∧ intText? ("3" : Str) = some 3 := by decide +kernel
  have n5 : ("5" : Str) ≠ "-" ∧ ("5" : Str).length ≤ 640 ∧ intText? ("5" : Str) = some 5 := by decide +kernel
  have la := ha.2.1
  have lb := hb.2.1
  have lx : (lnX z).length ≤ 640 := by
    have h1 := tx'.ln
    have h2 : 2 ^ dpE e ≤ 2 ^ 4 := Nat.pow_le_pow_right (by decide) d
    have h3 : (lnX z).length = 6 + z.length := by
      unfold lnX
      rw [PySem.Str.length_append]
      rfl
    have h4 : (2 : Nat) ^ 4 = 16 := rfl
    omega
  have nmL : (vs.map fun v => (⟨lnL v, v, 0, f v⟩ : LocL)).map (·.nm) = vs := by
    rw [List.map_map]
    exact List.map_id _
  have c1 : CelL.ok ⟨lnC a, a, 1, 0, t1⟩ [] := by
    refine ⟨?_, s1, by show t1.length ≤ 1000; rw [kts_len k1]; exact (by decide : 4 ≤ 1000), kts_tx k1 0, kts_tx k1 1, ha, by simp, .inl ⟨kts_tx k1 2, rfl, ?_⟩, (by decide : (1 : Int) ≤ 1), (by decide : (1 : Int) ≤ 12)⟩
    · show (lnC a).length ≤ 640
      unfold lnC
      rw [PySem.Str.length_append, PySem.Str.length_append]
      show 5 + a.length + 4 ≤ 640
      omega
    · show IntAt t1 3 0 t1.length
      rw [kts_len k1]
      exact int_at (i := 3) k1 rfl n0
  have c2 : CelL.ok ⟨lnD b, b, 3, 5, t2⟩ [a] := by
    have t22 : tx t2 2 = "3" := kts_tx k2 2
    refine ⟨?_, s2, by show t2.length ≤ 1000; rw [kts_len k2]; exact (by decide : 5 ≤ 1000), kts_tx k2 0, kts_tx k2 1, hb, by simpa using hab, .inr ⟨by show tx t2 2 ≠ "="; rw [t22]; decide, 3, int_at (i := 2) k2 rfl n3, kts_tx k2 3, ?_⟩, (by decide : (1 : Int) ≤ 3), (by decide : (3 : Int) ≤ 12)⟩
    · show (lnD b).length ≤ 640
      unfold lnD
      rw [PySem.Str.length_append, PySem.Str.length_append]
      show 5 + b.length + 6 ≤ 640
      omega
    · show IntAt t2 4 5 t2.length
      rw [kts_len k2]
      exact int_at (i := 4) k2 rfl n5
  refine ⟨⟨⟨lnC a, a, 1, 0, t1⟩, ⟨lnD b, b, 3, 5, t2⟩, lnT t, tt, vs.map fun v => ⟨lnL v, v, 0, f v⟩, "atomic", ta, lnX z, tl, "end", te, e, c1, c2, ⟨?_, st, kts_tx et 0, ?_, kts_len et⟩, ?_, ?_, ⟨by decide, sa, kts_tx ka 0, kts_len ka⟩, ⟨lx, sl, ?_, kts_tx kl' 0, ?_⟩, ⟨by decide, se, kts_tx ee 0, kts_len ee⟩⟩, ?_, rfl⟩
  · have := ht.2.1
    unfold lnT
    rw [PySem.Str.length_append]
    show 7 + t.length ≤ 640
    omega
  · rw [kts_tx et 1]
    exact ht
  · intro i l hi
    rw [List.getElem?_map] at hi
    cases q : vs[i]? with
    | none => rw [q] at hi; cases hi
    | some v =>
      rw [q] at hi
      cases Option.some.inj hi
      have hlt : i < vs.length := by
        by_cases z : i < vs.length
        · exact z
        · rw [List.getElem?_eq_none (by omega)] at q; cases q
      have ev : vs[i] = v := by rw [List.getElem?_eq_getElem hlt] at q; exact Option.some.inj q
      have vm : v ∈ vs := ev ▸ List.getElem_mem hlt
      obtain ⟨nv, nab⟩ := hv v vm
      obtain ⟨s1, k1⟩ := hf v nv
      refine ⟨?_, s1, ?_, kts_tx k1 0, kts_tx k1 1, nv, ?_, kts_tx k1 2, ?_⟩
      · have := nv.2.1
        show (lnL v).length ≤ 640
        unfold lnL
        rw [PySem.Str.length_append, PySem.Str.length_append]
        show 6 + v.length + 4 ≤ 640
        omega
      · show (f v).length ≤ 1000
        rw [kts_len k1]
        exact (by decide : 4 ≤ 1000)
      · intro hm
        rcases List.mem_append.mp hm with hm | hm
        · exact nab hm
        · rw [← List.map_take, List.map_map] at hm
          obtain ⟨u, hu, e2⟩ := List.mem_map.mp hm
          have e2 : u = v := e2
          subst e2
          obtain ⟨j, hj, ej⟩ := List.getElem_of_mem hu
          rw [List.length_take] at hj
          rw [List.getElem_take] at ej
          exact List.pairwise_iff_getElem.mp nd j i (by omega) hlt (by omega) (ej.trans ev.symm)
      · show IntAt (f v) 3 0 (f v).length
        rw [kts_len k1]
        exact int_at (i := 3) k1 rfl n0
  · rw [List.length_map]; exact hl
  · have := scan_len sl
    rw [← len_cs] at this
    omega
  · rw [nmL]
    exact later_rd (X := ⟨tl, [a, b], vs, true⟩) (tx'.rd ⟨tl, [a, b], vs, true⟩ rfl rfl rfl) tx'.hd.k kl' (by omega) (by omega)
  · show lnC a :: lnD b :: lnT t :: ((vs.map fun v => (⟨lnL v, v, 0, f v⟩ : LocL)).map (·.z) ++ [zAt, lnX z, zEn, zEn]) = linesB a b t vs z
    rw [List.map_map]
    rfl
/-! the lines joined, and split again -/
theorem nl_lines {a b t : Str} {vs : List Str} {z : Str} (ha : NameOk a) (hb : NameOk b) (ht : NameOk t) (hv : ∀ v ∈ vs, NameOk v) (hz : NoNl z) : ∀ y ∈ linesB a b t vs z, NoNl y := by
  intro y hy
  have cn : ∀ {u : Str}, (cs u).all (fun c => c != 10) = true → NoNl u := fun h m => by
    have := List.all_eq_true.mp h 10 m
    exact absurd this (by decide)
  rcases List.mem_cons.mp hy with rfl | hy
  · exact nl_app (nl_app (cn (by decide +kernel)) (nl_let ha.2.2.2)) (cn (by decide +kernel))
  rcases List.mem_cons.mp hy with rfl | hy
  · exact nl_app (nl_app (cn (by decide +kernel)) (nl_let hb.2.2.2)) (cn (by decide +kernel))
  rcases List.mem_cons.mp hy with rfl | hy
  · exact nl_app (cn (by decide +kernel)) (nl_let ht.2.2.2)
  rcases List.mem_append.mp hy with hy | hy
  · obtain ⟨v, hv2, rfl⟩ := List.mem_map.mp hy
    exact nl_app (nl_app (cn (by decide +kernel)) (nl_let (hv v hv2).2.2.2)) (cn (by decide +kernel))
  simp only [List.mem_cons, List.not_mem_nil, or_false] at hy
  rcases hy with rfl | rfl | rfl | rfl
  · exact cn (by decide +kernel)
  · exact nl_app (cn (by decide +kernel)) hz
  · exact cn (by decide +kernel)
  · exact cn (by decide +kernel)
theorem join_len (y : Str) : ∀ ps : List Str, (Str.join y ps).length ≤ (ps.map (·.length)).sum + ps.length * y.length
  | [] => Nat.zero_le _
  | [a] => by
    show a.length ≤ a.length + 0 + 1 * y.length
    omega
  | a :: b :: r => by
    have ih := join_len y (b :: r)
    show (a ++ y ++ Str.join y (b :: r)).length ≤ _
    rw [PySem.Str.length_append, PySem.Str.length_append, List.map_cons, List.sum_cons, List.length_cons, Nat.succ_mul]
    omega
theorem sum_le {n : Nat} : ∀ {ps : List Str}, (∀ z ∈ ps, z.length ≤ n) → (ps.map (·.length)).sum ≤ ps.length * n
  | [], _ => Nat.zero_le _
  | a :: r, h => by
    have ih := sum_le (ps := r) fun z hz => h z (List.mem_cons_of_mem _ hz)
    have := h a List.mem_cons_self
    rw [List.map_cons, List.sum_cons, List.length_cons, Nat.succ_mul]
    omega
theorem split_lines {a b t : Str} {vs : List Str} {z : Str} (ha : NameOk a) (hb : NameOk b) (ht : NameOk t) (hv : ∀ v ∈ vs, NameOk v) (hz : NoNl z) : Txt.split (Txt.join nb (linesB a b t vs z)) nb = linesB a b t vs z :=
  TL.split_join (y := nb) (s := 10) (S := []) (by decide +kernel) (by decide +kernel) (List.cons_ne_nil _ _) (nl_lines ha hb ht hv hz)
theorem prg_len {n : Nat} (p : PrgB n) : ∀ z ∈ p.rows, z.length ≤ 640 := by
  intro z hz
  rcases List.mem_cons.mp hz with rfl | hz
  · exact p.h1.1
  rcases List.mem_cons.mp hz with rfl | hz
  · exact p.h2.1
  rcases List.mem_cons.mp hz with rfl | hz
  · exact p.ht.1
  rcases List.mem_append.mp hz with hz | hz
  · obtain ⟨l, hl, rfl⟩ := List.mem_map.mp hz
    obtain ⟨i, hi, e⟩ := List.getElem_of_mem hl
    have := p.hl i l (by rw [List.getElem?_eq_getElem hi, e])
    exact this.1
  simp only [List.mem_cons, List.not_mem_nil, or_false] at hz
  rcases hz with rfl | rfl | rfl | rfl
  · exact p.ha.1
  · exact p.hs.1
  · exact p.he.1
  · exact p.he.1
end K01

namespace K01
open PySem L2 YF YG
/-! ### the law reads -/
theorem cat_un {ta tb : TE} {σ : L2.St} {H : Hp} {Q : VK} (h : ta σ H fun x H1 => tb σ H1 fun y H2 => rCat x y H2 Q) : tOp rCat ta tb σ H Q := h
theorem field_un {K : PySem.W.Frag} {ta : TE} {f : Str} {σ : L2.St} {H : Hp} {Q : VK} (h : ta σ H fun x H1 => ∃ a C dx fs v, x = .ref a ∧ H1 a = some (.ins C dx fs) ∧ Cls K C ∧ NoAttr K C f ∧ fs.lookup f = some v ∧ Q v H1) : tFld K ta f σ H Q := h
theorem te_cats {σ : L2.St} {H : Hp} {ta tb : TE} {a b : Str} (ha : Te ta σ H (.str a)) (hb : Te tb σ H (.str b)) (l : a.length + b.length ≤ sizeLine) : Te (tOp (fun x y H Q => ∃ i j, x = .str i ∧ y = .str j ∧ i.length + j.length ≤ sizeLine ∧ Q (.str (i ++ j)) H) ta tb) σ H (.str (a ++ b)) := fun Q q => ha _ (hb _ ⟨a, b, rfl, rfl, l, q⟩)
def spRead (K : PySem.W.Frag) (A : Adr) : Sp := fun ws H Q _ => ∃ (z : Str) (p q : Addr) (a b c d t : Str) (vs : List Str) (e : Ex) (l : List Kt), ws = [.str z, .ref p, .ref q] ∧ H p = some (.lst ([a, b, c, d, t].map V.str)) ∧ H q = some (.lst (vs.map V.str)) ∧ GxR.TabG H A.t_is_name ∧
  NameOk a ∧ NameOk b ∧ NameOk t ∧ b ≠ a ∧ (∀ v ∈ vs, NameOk v ∧ v ∉ [a, b]) ∧ vs.Nodup ∧ vs.length ≤ 10 ∧ TxE vs [a, b] e z l ∧ dpE e ≤ 4 ∧
  ∀ (u2 : Addr) (s : V) (H' : Hp), Kept [A.t_is_name] H H' → GxR.TabG H' A.t_is_name → H' u2 = some (.lst [s]) → Rp K (kl [A.t_is_name] H') (blkD e) [s] → Q (.ref u2) H'
section
variable {P : Program} {w : World} {K : PySem.W.Frag} {mg : Str → Option Value} {base : Heap} {A : Adr}
theorem ok_law_read (DT : DcT K w A) (FT : FmT K w A) (TB : GxR.TabB base mg A.c_is_name A.t_is_name) (T : Txt K mg A) : FnOk P w K mg base CX0 111 A.a__law_read A.d__law_read ["text", "names", "variables"] (spRead K A) := by
  refine T.F__law_read.ok (k := 110) sc_law_read (fun ws H Q E ⟨_, _, _, _, _, _, _, _, _, _, _, e, _⟩ => by rw [e]; rfl) (fun cdv A' outer s H ws Q E hr h' => ?_)
  obtain ⟨z, p, q, a, b, c, d, t, vs, e, l, rfl, hp, hq, tb, na, nb', nt, hab, hv, nd, lv, tx', d4, k⟩ := h'
  refine ⟨_, pss_cons (ps_set (i := 3) sc_law_read.nd rfl (Or.inl rfl) (pe_lst (pa_cons (pe_op op_add_str (pe_op op_add_str (pe_str) (pe_ix ix_list (pv 1) (pe_int) (fun _ _ => rfl))) (pe_str)) (pa_cons (pe_op op_add_str (pe_op op_add_str (pe_str) (pe_ix ix_list (pv 1) (pe_int) (fun _ _ => rfl))) (pe_str)) (pa_cons (pe_op op_add_str (pe_str) (pe_ix ix_list (pv 1) (pe_int) (fun _ _ => rfl))) pa_nil)))))
  (pss_cons (ps_set (i := 3) sc_law_read.nd rfl (Or.inl rfl) (pe_op op_cat (pe_op op_cat (pv 3) (pe_lc (own := [("name", 4)]) (g := gName 4) (tt := tYes) rfl sc_law_read.nd (pi_list (pv 2)) (blkOk_by (N := ["text", "names", "variables", "lines", "name"]) (sc := defScope s_law_read) (by decide +kernel)) (fun _ _ _ _ _ => pg_name (i := 4) sc_law_read.nd rfl (Or.inl rfl)) (fun _ _ _ _ _ => pts_nil) (fun _ _ _ _ _ => pe_op op_add_str (pe_op op_add_str (pe_str) (pv 4)) (pe_str)))) (pe_lst (pa_cons (pe_str) (pa_cons (pe_op op_add_str (pe_str) (pv 0)) (pa_cons (pe_str) (pa_cons (pe_str) pa_nil)))))))
  (pss_one (ps_ret (pe_fld (pe_ix ix_list (pe_fld (pe_call (ok_read_program (n := 9) TB FT T (rd_ok DT TB T 9).ex) (hr.mono (by decide)) rfl T.g_read_program T.F_read_program.kp T.b_read_program .nil pass0 (pa_cons (pe_join (pe_str) (pv 3)) pa_nil)) rfl) (pe_int) (fun _ _ => rfl)) rfl)))), ?_⟩
  have bs : sizeLine = 16777216 := sizeLine_eq
  have zs := tx_small tx' (by omega)
  have la := na.2.1
  have lb := nb'.2.1
  have lt := nt.2.1
  have ix : ∀ {j : Nat} {y : Str} {σ : L2.St}, σ[1]? = some (some (.ref p)) → ([a, b, c, d, t] : List Str)[j]? = some y → Te (tOp (rIxL K) (tVar 1) (tC (.int (j : Int)))) σ H (.str y) := fun {j y σ} hσ e => te_ixL (te_var hσ) te_c (SqL.of hp) (atI_nat (by rw [List.getElem?_map, e]; rfl))
  refine asg_un (lst_un ((ta_cons (te_cats (te_cats te_c (ix (j := 0) (y := a) rfl rfl) ?_) te_c ?_) (ta_cons (te_cats (te_cats te_c (ix (j := 1) (y := b) rfl rfl) ?_) te_c ?_) (ta1 (te_cats te_c (ix (j := 4) (y := t) rfl rfl) ?_)))) _ ⟨by rw [bs]; exact (by decide : 3 ≤ 16777216), fun l1 hl1 => ?_⟩))
  · show 5 + a.length ≤ _; omega
  · rw [PySem.Str.length_append]; show 5 + a.length + 4 ≤ _; omega
  · show 5 + b.length ≤ _; omega
  · rw [PySem.Str.length_append]; show 5 + b.length + 6 ≤ _; omega
  · show 7 + t.length ≤ _; omega
  have s1 : Same H (upd H l1 (.lst [.str (lnC a), .str (lnD b), .str (lnT t)])) := Same.upd hl1
  have e1 : upd H l1 (.lst [.str (lnC a), .str (lnD b), .str (lnT t)]) l1 = some (.lst [.str (lnC a), .str (lnD b), .str (lnT t)]) := upd_same
  show tSeq _ _ _ _ (upd H l1 (.lst [.str (lnC a), .str (lnD b), .str (lnT t)]))
  generalize upd H l1 (.lst [.str (lnC a), .str (lnD b), .str (lnT t)]) = H1 at s1 e1 ⊢
  refine set_sl (σ' := [some (.str z), some (.ref p), some (.ref q), some (.ref l1), none]) rfl ?_
  refine asg_un (cat_un (cat_un (Te.go (te_var rfl) ?_)))
  refine lc_go (ti_list (te_var rfl) (SqL.of (s1 _ _ hq))) walk_list (fun L i H' => Same H1 H' ∧ H' L = some (.lst ((vs.take i).map fun v => V.str (lnL v)))) (fun L hL => ⟨Same.upd hL, upd_same⟩) (fun L i H' _ h => SqL.of (h.1 _ _ (s1 _ _ hq))) ?_ fun L H2 hL ⟨s2, e2⟩ => ?_
  · rintro L i x G G' hL hi ⟨sa, ea⟩ ⟨rfl, ex⟩
    rw [List.getElem?_map] at ex
    obtain ⟨nm, en, ev⟩ := Option.map_eq_some_iff.mp ex
    subst ev
    have nl := (hv nm (List.mem_of_getElem? en)).1.2.1
    refine ⟨rfl, yes_go ?_⟩
    have lt : ((vs.take i).map fun v => V.str (lnL v)).length < sizeLine := by
      rw [List.length_map, List.length_take, bs]
      have := Nat.min_le_right i vs.length
      omega
    refine Te.go (te_cats (te_cats te_c (te_var rfl) (by rw [bs]; show 6 + nm.length ≤ _; omega)) te_c (by rw [bs, PySem.Str.length_append]; show 6 + nm.length + 4 ≤ _; omega)) ⟨_, ea, lt, fun b o e => ?_, ?_⟩
    · rw [upd_ne fun z => by rw [z, hL] at e; cases e]
      exact sa _ _ e
    · rw [upd_same, List.take_add_one, en, List.map_append]
      rfl
  rw [List.length_map, List.take_length] at e2
  refine ⟨l1, L, _, _, rfl, rfl, s2 _ _ e1, e2, by rw [bs, List.length_map]; show 3 + vs.length ≤ _; omega, fun l2 hl2 => ?_⟩
  have s3 : Same H2 (upd H2 l2 (.lst ([V.str (lnC a), V.str (lnD b), V.str (lnT t)] ++ vs.map fun v => V.str (lnL v)))) := Same.upd hl2
  have e3 : upd H2 l2 (.lst ([V.str (lnC a), V.str (lnD b), V.str (lnT t)] ++ vs.map fun v => V.str (lnL v))) l2 = some (.lst ([V.str (lnC a), V.str (lnD b), V.str (lnT t)] ++ vs.map fun v => V.str (lnL v))) := upd_same
  have S3 := (s1.trans s2).trans s3
  show tLst _ _ (upd H2 l2 (.lst ([V.str (lnC a), V.str (lnD b), V.str (lnT t)] ++ vs.map fun v => V.str (lnL v)))) _
  generalize upd H2 l2 (.lst ([V.str (lnC a), V.str (lnD b), V.str (lnT t)] ++ vs.map fun v => V.str (lnL v))) = H3 at s3 e3 S3 ⊢
  refine lst_un ((ta_cons te_c (ta_cons (te_cats te_c (te_var rfl) (by rw [bs]; show 6 + z.length ≤ _; omega)) (ta_cons te_c (ta1 te_c)))) _ ⟨by rw [bs]; exact (by decide : 4 ≤ 16777216), fun l3 hl3 => ?_⟩)
  have s4 : Same H3 (upd H3 l3 (.lst [V.str zAt, V.str (lnX z), V.str zEn, V.str zEn])) := Same.upd hl3
  have e4 : upd H3 l3 (.lst [V.str zAt, V.str (lnX z), V.str zEn, V.str zEn]) l3 = some (.lst [V.str zAt, V.str (lnX z), V.str zEn, V.str zEn]) := upd_same
  show rCat _ _ (upd H3 l3 (.lst [V.str zAt, V.str (lnX z), V.str zEn, V.str zEn])) _
  have S4 := S3.trans s4
  have e3' := s4 _ _ e3
  generalize upd H3 l3 (.lst [V.str zAt, V.str (lnX z), V.str zEn, V.str zEn]) = H4 at s4 e4 S4 e3' ⊢
  refine ⟨l2, l3, _, _, rfl, rfl, e3', e4, by rw [bs, List.length_append, List.length_map]; show 3 + vs.length + 4 ≤ _; omega, fun l4 hl4 => ?_⟩
  have eL : ([V.str (lnC a), V.str (lnD b), V.str (lnT t)] ++ vs.map fun v => V.str (lnL v)) ++ [V.str zAt, V.str (lnX z), V.str zEn, V.str zEn] = (linesB a b t vs z).map V.str := by
    simp [linesB, List.map_map]
  rw [eL]
  have s5 : Same H4 (upd H4 l4 (.lst ((linesB a b t vs z).map V.str))) := Same.upd hl4
  have e5 : upd H4 l4 (.lst ((linesB a b t vs z).map V.str)) l4 = some (.lst ((linesB a b t vs z).map V.str)) := upd_same
  have S5 := S4.trans s5
  generalize upd H4 l4 (.lst ((linesB a b t vs z).map V.str)) = H5 at s5 e5 S5 ⊢
  dsimp only
  refine set_sl (σ' := [some (.str z), some (.ref p), some (.ref q), some (.ref l4), none]) rfl ?_
  -- the program is read
  obtain ⟨pg, er, ee⟩ := prg_of na nb' nt hab hv nd lv tx' d4
  have hlen : (Txt.join nb (linesB a b t vs z)).length ≤ 20000 ∧ ((linesB a b t vs z).map (·.length)).sum + (linesB a b t vs z).length * nb.length ≤ 20000 := by
    have l1 := sum_le (n := 640) (ps := linesB a b t vs z) (by rw [← er]; exact prg_len pg)
    have l2 : (linesB a b t vs z).length ≤ 17 := by simp [linesB]; omega
    have l3 : nb.length = 1 := by decide
    have l4 := join_len nb (linesB a b t vs z)
    rw [TL.join_eq]
    rw [l3] at l4 ⊢
    have : (linesB a b t vs z).length * 640 ≤ 17 * 640 := Nat.mul_le_mul_right _ l2
    omega
  refine ret_un (field_un (op_un (field_un (call_un (cons_un (m1_un (Te.go te_c ⟨⟨_, rfl⟩, Te.go (te_var rfl) ⟨nb, l4, linesB a b t vs z, rfl, rfl, .inl (SqL.of e5), by omega, nil_un ?_⟩⟩)))))))
  refine ⟨_, pg, rfl, hlen.1, by rw [er]; exact split_lines na nb' nt (fun v h => (hv v h).1) tx'.nl, TabG.same tb S5, fun x dx q1 q2 t' dxt u1 u2 nm st H6 k6 tb6 hx hq2 ht6 hu2 rst => ?_⟩
  rw [ee] at rst
  refine ⟨x, _, _, _, _, rfl, hx, T.cl_Program, T.no_Program_threads, rfl, Te.go te_c ⟨q2, [.ref t'], 0, .ref t', rfl, rfl, SqL.of hq2, atI_nat (xs := [V.ref t']) (j := 0) rfl, t', _, _, _, _, rfl, ht6, T.cl_Thread, T.no_Thread_body, rfl, ?_⟩⟩
  exact k u2 st H6 ((Kept.of S5).trans k6) tb6 hu2 rst
end
end K01

namespace K01
open PySem L2 YF YG
/-! ### the writer -/
theorem GoE.one {K : PySem.W.Frag} {H : Hp} {v x : V} {w : Str} {a : Ex} (o : GoE K H v (.one w a)) (r : Rp K H a.d [x]) : GoE K H x a := by
  obtain ⟨vs, ks, wf⟩ := o.wf
  have d : dpE (.one w a) = dpE a + 1 := rfl
  have := o.d9
  exact ⟨r, ⟨vs, ks, wf.2⟩, by omega⟩
theorem GoE.two {K : PySem.W.Frag} {H : Hp} {v x y : V} {w : Str} {a b : Ex} (o : GoE K H v (.two w a b)) (r : Rp K H a.d [x]) (s : Rp K H b.d [y]) : GoE K H x a ∧ GoE K H y b := by
  obtain ⟨vs, ks, wf⟩ := o.wf
  have d : dpE (.two w a b) = max (dpE a) (dpE b) + 1 := rfl
  have := o.d9
  have := Nat.le_max_left (dpE a) (dpE b)
  have := Nat.le_max_right (dpE a) (dpE b)
  exact ⟨⟨r, ⟨vs, ks, wf.2.1⟩, by omega⟩, ⟨s, ⟨vs, ks, wf.2.2⟩, by omega⟩⟩
theorem GoE.cell {K : PySem.W.Frag} {H : Hp} {v x : V} {w : Str} {a : Ex} (o : GoE K H v (.cell w a)) (r : Rp K H a.d [x]) : GoE K H x a := by
  obtain ⟨vs, ks, wf⟩ := o.wf
  have d : dpE (.cell w a) = dpE a + 1 := rfl
  have := o.d9
  exact ⟨r, ⟨vs, ks, wf.2.2.2⟩, by omega⟩
theorem te_isi {K : PySem.W.Frag} {σ : L2.St} {H : Hp} {te : TE} {x : V} {t : Value} {b : Bool} {ty : String} (hx : TyX K H x t) (hk : PySem.W.kitOne K t (.type ty) = some b) (ha : Te te σ H x) : Te (tCB (rIsi K) (tCons te (tCons (tC (.ty ty)) tNil))) σ H (.bl b) := fun Q q =>
  ha _ ⟨x, .ty ty, t, .type ty, b, rfl, .ty _, hx, hk, q⟩
theorem wts_len : ∀ l : List Pc, l.length ≤ wts l
  | [] => Nat.le_refl _
  | p :: r => by
    have := wts_len r
    have h : 1 ≤ p.wt := by
      cases p with
      | t z => exact Nat.le_refl _
      | x v e => have := wt_pos e; show 1 ≤ wtE e; omega
    show r.length + 1 ≤ p.wt + wts r
    omega
theorem join_cat : ∀ ws : List Str, Str.join "" ws = catS ws
  | [] => rfl
  | [a] => (app_nil' a).symm
  | a :: b :: r => by
    show a ++ "" ++ Str.join "" (b :: r) = a ++ catS (b :: r)
    rw [app_nil', join_cat (b :: r)]
theorem cat_len : ∀ ws : List Str, (catS ws).length = (ws.map (·.length)).sum
  | [] => rfl
  | a :: r => by
    show (a ++ catS r).length = a.length + (r.map (·.length)).sum
    rw [PySem.Str.length_append, cat_len r]
section
variable {P : Program} {w : World} {K : PySem.W.Frag} {mg : Str → Option Value} {base : Heap} {A : Adr}
theorem ok_pieces (OT : OpT K w A) (T : Txt K mg A) : FnOk P w K mg base CX0 2 A.a__pieces A.d__pieces ["expression"] (spPcs K) := by
  refine T.F__pieces.ok (k := 1) sc_pieces (fun ws H Q E ⟨_, _, _, e, _⟩ => by rw [e]; rfl) (fun cdv A' outer s H ws Q E hr h' => ?_)
  obtain ⟨B, v, e, rfl, sB, o, k⟩ := h'
  refine ⟨_, pss_cons (ps_set (i := 1) sc_pieces.nd rfl (Or.inl rfl) (pe_ix ix_tup (pv 0) (pe_int) (fun _ _ => rfl)))
  (pss_cons (ps_if (pt_cmpR op_eq (pv 1) (pe_str) (nomark _))
  (pss_one (ps_ret (pe_lst (pa_cons (pe_callTy call_str_int (by rfl) T.n_str (by decide +kernel) (pa_cons (pe_ix ix_tup (pv 0) (pe_int) (fun _ _ => rfl)) pa_nil)) pa_nil))))
  (pss_nil))
  (pss_cons (ps_if (pt_cmpR op_eq (pv 1) (pe_str) (nomark _))
  (pss_one (ps_ret (pe_lst (pa_cons (pe_ix ix_tup (pv 0) (pe_int) (fun _ _ => rfl)) pa_nil))))
  (pss_nil))
  (pss_cons (ps_if (pt_cmpR op_eq (pv 1) (pe_str) (nomark _))
  (pss_cons (ps_if (pt_cmpR (op_eqD hr.units) (pe_ix ix_tup (pv 0) (pe_int) (fun _ _ => rfl)) (pe_tup (pa_cons (pe_str) (pa_cons (pe_int) pa_nil))) (nomark _))
  (pss_one (ps_ret (pe_lst (pa_cons (pe_ix ix_tup (pv 0) (pe_int) (fun _ _ => rfl)) pa_nil))))
  (pss_nil))
  (pss_one (ps_ret (pe_lst (pa_cons (pe_ix ix_tup (pv 0) (pe_int) (fun _ _ => rfl)) (pa_cons (pe_str) (pa_cons (pe_ix ix_tup (pv 0) (pe_int) (fun _ _ => rfl)) (pa_cons (pe_str) pa_nil))))))))
  (pss_nil))
  (pss_cons (ps_set (i := 2) sc_pieces.nd rfl (Or.inl rfl) (pe_call (ok_parts_of T) (hr.mono (by decide)) rfl T.g_parts_of T.F_parts_of.kp T.b_parts_of .nil pass0 (pa_cons (pv 0) pa_nil)))
  (pss_cons (ps_if (pt_cmpR op_eq (pv 1) (pe_str) (nomark _))
  (pss_one (ps_ret (pe_op op_cat (pe_lst (pa_cons (pe_str) pa_nil)) (pe_call (ok_part T) (hr.mono (by decide)) rfl T.g__part T.F__part.kp T.b__part .nil pass0 (pa_cons (pe_ix ix_tup (pv 2) (pe_int) (fun _ _ => rfl)) pa_nil)))))
  (pss_nil))
  (pss_cons (ps_if (pt_cmpR op_eq (pv 1) (pe_str) (nomark _))
  (pss_cons (ps_if (pt_cmpR op_eq (pe_ix ix_seq (pe_ix ix_tup (pv 2) (pe_int) (fun _ _ => rfl)) (pe_int) (fun _ _ => rfl)) (pe_str) (nomark _))
  (pss_one (ps_ret (pe_lst (pa_cons (pe_str) (pa_cons (pe_str) (pa_cons (pe_ix ix_tup (pv 2) (pe_int) (fun _ _ => rfl)) (pa_cons (pe_str) pa_nil)))))))
  (pss_nil))
  (pss_one (ps_ret (pe_op op_cat (pe_lst (pa_cons (pe_str) pa_nil)) (pe_call (ok_part T) (hr.mono (by decide)) rfl T.g__part T.F__part.kp T.b__part .nil pass0 (pa_cons (pe_ix ix_tup (pv 2) (pe_int) (fun _ _ => rfl)) pa_nil))))))
  (pss_nil))
  (pss_one (ps_ret (pe_op op_cat (pe_op op_cat (pe_call (ok_part T) (hr.mono (by decide)) rfl T.g__part T.F__part.kp T.b__part .nil pass0 (pa_cons (pe_ix ix_tup (pv 2) (pe_int) (fun _ _ => rfl)) pa_nil)) (pe_lst (pa_cons (pe_op op_add_str (pe_op op_add_str (pe_str) (pe_ix ix_kdict (pe_glob (v := .ref A.a_OPERATORS) rfl T.g_OPERATORS rfl) (pv 1) (fun _ _ => rfl))) (pe_str)) pa_nil))) (pe_call (ok_part T) (hr.mono (by decide)) rfl T.g__part T.F__part.kp T.b__part .nil pass0 (pa_cons (pe_ix ix_tup (pv 2) (pe_int) (fun _ _ => rfl)) pa_nil))))))))))), ?_⟩
  have sl : sizeLine = 16777216 := sizeLine_eq
  have nw : ∀ {u z : Str}, u ≠ z → V.str u ≠ V.str z := fun h q => h (V.str.inj q)
  have s1 : ∀ z : Str, z.length ≤ 100000 → (Pc.t z).ok K B := fun z h => h
  obtain ⟨vs, ks, wf⟩ := o.wf
  cases e with
  | num m =>
    obtain ⟨a, rfl, hB⟩ := rp_num o.rp
    have h1 := Same.sqT sB hB
    refine asg_te (te_ixT (te_var rfl) te_c h1 (atI_nat (j := 0) rfl)) ?_
    refine set_sl (σ' := [some (.ref a), some (.str "number"), none]) rfl ?_
    refine if_seq (b := true) (tt_test (te_eqT (te_var rfl) te_c rfl)) (fun _ => ?_) (fun z => nomatch z)
    have ln := (tE_num (vs := vs) (ks := ks) wf).ln
    have e0 : dpE (.num m) = 0 := rfl
    rw [e0] at ln
    refine ret_un (lst_un (cons_un ((ta1 (te_ixT (te_var rfl) te_c h1 (v := .int m) (atI_nat (j := 1) rfl))) _ ⟨m, rfl, lg_num wf, nil_un ⟨by show 1 ≤ sizeLine; decide, fun p hp => ?_⟩⟩)))
    exact k p _ [.t (wrT (.num m))] (Same.upd hp) hp upd_same (fun q hq => by rw [List.mem_singleton.mp hq]; exact s1 _ (by show (Str.ofString (toString m)).length ≤ 100000; omega)) (app_nil' _) (by show 1 + 0 < 2; decide) (by simp)
  | var u x =>
    obtain ⟨rfl, z, rfl, hz, _⟩ := wf
    obtain ⟨a, rfl, hB⟩ := rp_var o.rp
    have h1 := Same.sqT sB hB
    have lz := hz.2.1
    refine asg_te (te_ixT (te_var rfl) te_c h1 (atI_nat (j := 0) rfl)) ?_
    refine set_sl (σ' := [some (.ref a), some (.str "local"), none]) rfl ?_
    refine if_seq (b := false) (tt_test (te_eqF (x := .str "local") (te_var rfl) te_c rfl (nw (by decide)))) (fun z => nomatch z) fun _ => ?_
    refine if_seq (b := true) (tt_test (te_eqT (te_var rfl) te_c rfl)) (fun _ => ?_) (fun z => nomatch z)
    refine ret_un (lst_un ((ta1 (te_ixT (te_var rfl) te_c h1 (v := .str z) (atI_nat (j := 1) rfl))) _ ⟨by show 1 ≤ sizeLine; decide, fun p hp => ?_⟩))
    exact k p _ [.t z] (Same.upd hp) hp upd_same (fun q hq => by rw [List.mem_singleton.mp hq]; exact s1 _ (by omega)) (app_nil' _) (by show 1 + 0 < 2; decide) (by simp)
  | cell z i =>
    obtain ⟨hz, _, _, wi⟩ := id wf
    obtain ⟨a, x, rfl, hB, ri⟩ := rp_cell o.rp
    have h1 := Same.sqT sB hB
    have oi := o.cell ri
    have lz := hz.2.1
    have d9 := oi.d9
    refine asg_te (te_ixT (te_var rfl) te_c h1 (atI_nat (j := 0) rfl)) ?_
    refine set_sl (σ' := [some (.ref a), some (.str "cell"), none]) rfl ?_
    refine if_seq (b := false) (tt_test (te_eqF (x := .str "cell") (te_var rfl) te_c rfl (nw (by decide)))) (fun z => nomatch z) fun _ => ?_
    refine if_seq (b := false) (tt_test (te_eqF (x := .str "cell") (te_var rfl) te_c rfl (nw (by decide)))) (fun z => nomatch z) fun _ => ?_
    refine if_seq (b := true) (tt_test (te_eqT (te_var rfl) te_c rfl)) (fun _ => ?_) (fun z => nomatch z)
    refine ifs_un (zero_un (te_ixT (te_var rfl) te_c h1 (v := x) (atI_nat (j := 2) rfl)) sB ri wi (by omega) fun H1 s1' => ⟨_, rfl, ?_⟩)
    have h2 := Same.sqT s1' h1
    by_cases q : isZ0 i = true
    · rw [if_pos q]
      refine ret_un (lst_un ((ta1 (te_ixT (te_var rfl) te_c h2 (v := .str z) (atI_nat (j := 1) rfl))) _ ⟨by show 1 ≤ sizeLine; decide, fun p hp => ?_⟩))
      refine k p _ [.t z] (s1'.trans (Same.upd hp)) (same_none s1' hp) upd_same (fun q hq => by rw [List.mem_singleton.mp hq]; exact s1 _ (by omega)) ?_ (by show 1 + 0 < wtE i + 4; omega) (by simp)
      show z ++ "" = z ++ ixT i (wrT i)
      unfold ixT
      rw [if_pos q]
    · rw [if_neg q]
      refine ret_un (lst_un ((ta_cons (te_ixT (te_var rfl) te_c h2 (v := .str z) (atI_nat (j := 1) rfl)) (ta_cons te_c (ta_cons (te_ixT (te_var rfl) te_c h2 (v := x) (atI_nat (j := 2) rfl)) (ta1 te_c)))) _ ⟨by show 4 ≤ sizeLine; decide, fun p hp => ?_⟩))
      refine k p _ [.t z, .t "(", .x x i, .t ")"] (s1'.trans (Same.upd hp)) (same_none s1' hp) upd_same (fun q hq => ?_) ?_ (by show 1 + (1 + (wtE i + (1 + 0))) < wtE i + 4; omega) (by simp)
      · simp only [List.mem_cons, List.not_mem_nil, or_false] at hq
        rcases hq with rfl | rfl | rfl | rfl
        · exact s1 _ (by omega)
        · exact s1 _ (by decide)
        · exact oi
        · exact s1 _ (by decide)
      · show z ++ ("(" ++ (wrT i ++ (")" ++ ""))) = z ++ ixT i (wrT i)
        unfold ixT
        rw [if_neg q, app_nil', app_as]
  | one u b =>
    obtain ⟨hu, wb⟩ := id wf
    obtain ⟨a, x, rfl, hB, rb⟩ := rp_one o.rp
    have h1 := Same.sqT sB hB
    have ob := o.one rb
    have nn : u ≠ "number" ∧ u ≠ "local" ∧ u ≠ "cell" ∧ u ∉ (["number", "local", "slot", "cell"] : List Str) := by
      simp only [Ex.words1, List.mem_cons, List.not_mem_nil, or_false] at hu
      rcases hu with rfl | rfl <;> exact ⟨by decide, by decide, by decide, by decide⟩
    refine asg_te (te_ixT (te_var rfl) te_c h1 (atI_nat (j := 0) rfl)) ?_
    refine set_sl (σ' := [some (.ref a), some (.str u), none]) rfl ?_
    refine if_seq (b := false) (tt_test (te_eqF (x := .str u) (te_var rfl) te_c rfl (nw nn.1))) (fun z => nomatch z) fun _ => ?_
    refine if_seq (b := false) (tt_test (te_eqF (x := .str u) (te_var rfl) te_c rfl (nw nn.2.1))) (fun z => nomatch z) fun _ => ?_
    refine if_seq (b := false) (tt_test (te_eqF (x := .str u) (te_var rfl) te_c rfl (nw nn.2.2.1))) (fun z => nomatch z) fun _ => ?_
    refine asg_un (go_call (ta1 (te_var rfl)) ⟨a, u, [x], rfl, h1, nn.2.2.2, fun q H1 s1' hq eq => ?_⟩)
    refine set_sl (σ' := [some (.ref a), some (.str u), some (.ref q)]) rfl ?_
    have hx : ∀ {G : Hp}, Same H1 G → Te (tOp (rIxT K) (tVar 2) (tC (.int 0))) [some (.ref a), some (.str u), some (.ref q)] G x := fun s => te_ixT (te_var rfl) te_c (SqT.of (s _ _ eq)) (atI_nat (j := 0) rfl)
    -- a word ahead of a part
    have cat1 : ∀ (z : Str), z.length ≤ 100 → z ++ bxT b (wrT b) = wrT (.one u b) → tRet (tOp rCat (tLst (tCons (tC (.str z)) tNil)) (tCall (spPart K) [] E0 (tCons (tOp (rIxT K) (tVar 2) (tC (.int 0))) tNil))) { nx := fun x H' => Q V.non H', rt := Q } [some (.ref a), some (.str u), some (.ref q)] H1 := fun z lz ez => by
      refine ret_un (cat_un (lst_un ((ta1 te_c) _ ⟨by show 1 ≤ sizeLine; decide, fun l hl => ?_⟩)))
      have s2 : Same H1 (upd H1 l (.lst [.str z])) := Same.upd hl
      have e2 : upd H1 l (.lst [.str z]) l = some (.lst [.str z]) := upd_same
      show tCall _ _ _ _ _ (upd H1 l (.lst [.str z])) _
      generalize upd H1 l (.lst [.str z]) = H2 at s2 e2 ⊢
      refine go_call (ta1 (hx s2)) ⟨x, b, rfl, ob.same ((sB.trans s1').trans s2), fun p H3 s3 hp ep => ?_⟩
      have pl := part_len (v := x) (e := b)
      refine ⟨l, p, _, _, rfl, rfl, s3 _ _ e2, ep, by rw [sl, List.length_map]; show 1 + _ ≤ _; omega, fun r hr => ?_⟩
      have S3 := (s1'.trans s2).trans s3
      have pw := part_wt (v := x) (e := b)
      refine k r _ (.t z :: partP x b) (S3.trans (Same.upd hr)) (same_none S3 hr) upd_same (fun y hy => ?_) ?_ (by show 1 + wts (partP x b) < wtE b + 4; omega) (by rw [List.length_cons]; omega)
      · rcases List.mem_cons.mp hy with rfl | hy
        · exact s1 _ (by omega)
        · exact part_ok ob y hy
      · show z ++ catP (partP x b) = _
        rw [part_z, ez]
    by_cases qn : u = "not"
    · subst qn
      refine if_seq (b := true) (tt_test (te_eqT (te_var rfl) te_c rfl)) (fun _ => ?_) (fun z => nomatch z)
      exact cat1 "not " (by decide) (if_pos rfl).symm
    · have hu : u = "negative" := by
        simp only [Ex.words1, List.mem_cons, List.not_mem_nil, or_false] at hu
        exact hu.resolve_left qn
      subst hu
      refine if_seq (b := false) (tt_test (te_eqF (x := .str "negative") (te_var rfl) te_c rfl (nw (by decide)))) (fun z => nomatch z) fun _ => ?_
      refine if_seq (b := true) (tt_test (te_eqT (te_var rfl) te_c rfl)) (fun _ => ?_) (fun z => nomatch z)
      refine if_seq (tt_test (te_eq (te_wd (hx (Same.refl _)) (Rp.mono (sB.trans s1') rb)) te_c rfl)) (fun hn => ?_) fun hn => ?_
      · rw [num_word ob.wf] at hn
        refine ret_un (lst_un ((ta_cons te_c (ta_cons te_c (ta_cons (hx (Same.refl _)) (ta1 te_c)))) _ ⟨by show 4 ≤ sizeLine; decide, fun p hp => ?_⟩))
        refine k p _ [.t "-", .t "(", .x x b, .t ")"] (s1'.trans (Same.upd hp)) (same_none s1' hp) upd_same (fun y hy => ?_) ?_ (by show 1 + (1 + (wtE b + (1 + 0))) < wtE b + 4; omega) (by simp)
        · simp only [List.mem_cons, List.not_mem_nil, or_false] at hy
          rcases hy with rfl | rfl | rfl | rfl
          · exact s1 _ (by decide)
          · exact s1 _ (by decide)
          · exact ob
          · exact s1 _ (by decide)
        · have e1 : wrT (.one "negative" b) = "-(" ++ wrT b ++ ")" := (if_neg (by decide)).trans (if_pos hn)
          rw [e1]
          show "-" ++ ("(" ++ (wrT b ++ (")" ++ ""))) = _
          rw [app_nil', ← app_as, ← app_as]
          rfl
      · rw [num_word ob.wf] at hn
        exact cat1 "-" (by decide) ((if_neg (by decide)).trans (if_neg (by rw [hn]; exact Bool.false_ne_true))).symm
  | two u b c =>
    obtain ⟨hu, wb, wc⟩ := id wf
    obtain ⟨a, x, y, rfl, hB, rb, rc⟩ := rp_two o.rp
    have h1 := Same.sqT sB hB
    obtain ⟨ob, oc⟩ := o.two rb rc
    have nn : u ≠ "number" ∧ u ≠ "local" ∧ u ≠ "cell" ∧ u ∉ (["number", "local", "slot", "cell"] : List Str) ∧ u ≠ "not" ∧ u ≠ "negative" := by
      simp only [Ex.words2, List.mem_cons, List.not_mem_nil, or_false] at hu
      rcases hu with rfl | rfl | rfl | rfl | rfl | rfl | rfl | rfl | rfl | rfl <;> exact ⟨by decide, by decide, by decide, by decide, by decide, by decide⟩
    refine asg_te (te_ixT (te_var rfl) te_c h1 (atI_nat (j := 0) rfl)) ?_
    refine set_sl (σ' := [some (.ref a), some (.str u), none]) rfl ?_
    refine if_seq (b := false) (tt_test (te_eqF (x := .str u) (te_var rfl) te_c rfl (nw nn.1))) (fun z => nomatch z) fun _ => ?_
    refine if_seq (b := false) (tt_test (te_eqF (x := .str u) (te_var rfl) te_c rfl (nw nn.2.1))) (fun z => nomatch z) fun _ => ?_
    refine if_seq (b := false) (tt_test (te_eqF (x := .str u) (te_var rfl) te_c rfl (nw nn.2.2.1))) (fun z => nomatch z) fun _ => ?_
    refine asg_un (go_call (ta1 (te_var rfl)) ⟨a, u, [x, y], rfl, h1, nn.2.2.2.1, fun q H1 s1' hq eq => ?_⟩)
    refine set_sl (σ' := [some (.ref a), some (.str u), some (.ref q)]) rfl ?_
    refine if_seq (b := false) (tt_test (te_eqF (x := .str u) (te_var rfl) te_c rfl (nw nn.2.2.2.2.1))) (fun z => nomatch z) fun _ => ?_
    refine if_seq (b := false) (tt_test (te_eqF (x := .str u) (te_var rfl) te_c rfl (nw nn.2.2.2.2.2))) (fun z => nomatch z) fun _ => ?_
    have eop : " " ++ (opK u).2 ++ " " = sg u := by rw [(op_good u hu).2, app_as]
    have lop := len_sg u hu
    have lo2 : (opK u).2.length ≤ 4 := by
      have := congrArg Str.length eop
      rw [PySem.Str.length_append, PySem.Str.length_append] at this
      have h : (" " : Str).length = 1 := rfl
      omega
    refine ret_un (cat_un (cat_un (go_call (ta1 (te_ixT (te_var rfl) te_c (SqT.of eq) (v := x) (atI_nat (j := 0) rfl))) ⟨x, b, rfl, ob.same (sB.trans s1'), fun p2 H2 s2 hp2 ep2 => ?_⟩)))
    refine lst_un ((ta1 (te_cats (te_cats te_c (te_kdict (te_var rfl) (OT.ops u hu)) (by rw [sl]; show 1 + (opK u).2.length ≤ _; omega)) te_c (by rw [sl, PySem.Str.length_append]; show 1 + (opK u).2.length + 1 ≤ _; omega))) _ ⟨by show 1 ≤ sizeLine; decide, fun l3 hl3 => ?_⟩)
    rw [eop]
    have s3 : Same H2 (upd H2 l3 (.lst [.str (sg u)])) := Same.upd hl3
    have e3 : upd H2 l3 (.lst [.str (sg u)]) l3 = some (.lst [.str (sg u)]) := upd_same
    generalize upd H2 l3 (.lst [.str (sg u)]) = H3 at s3 e3 ⊢
    have pl1 := part_len (v := x) (e := b)
    have pl2 := part_len (v := y) (e := c)
    refine ⟨p2, l3, _, _, rfl, rfl, s3 _ _ ep2, e3, by rw [sl, List.length_map]; show _ + 1 ≤ _; omega, fun l4 hl4 => ?_⟩
    have s4 : Same H3 (upd H3 l4 (.lst ((partP x b).map Pc.v ++ [.str (sg u)]))) := Same.upd hl4
    have e4 : upd H3 l4 (.lst ((partP x b).map Pc.v ++ [.str (sg u)])) l4 = some (.lst ((partP x b).map Pc.v ++ [.str (sg u)])) := upd_same
    show tCall _ _ _ _ _ (upd H3 l4 (.lst ((partP x b).map Pc.v ++ [.str (sg u)]))) _
    have S4 := ((s1'.trans s2).trans s3).trans s4
    have S14 := (s2.trans s3).trans s4
    generalize upd H3 l4 (.lst ((partP x b).map Pc.v ++ [.str (sg u)])) = H4 at s4 e4 S4 S14 ⊢
    refine go_call (ta1 (te_ixT (te_var rfl) te_c (SqT.of (S14 _ _ eq)) (v := y) (atI_nat (j := 1) rfl))) ⟨y, c, rfl, oc.same (sB.trans S4), fun p5 H5 s5 hp5 ep5 => ?_⟩
    refine ⟨l4, p5, _, _, rfl, rfl, s5 _ _ e4, ep5, by rw [sl, List.length_append, List.length_map, List.length_map]; show _ + 1 + _ ≤ _; omega, fun l6 hl6 => ?_⟩
    have S5 := S4.trans s5
    have w1 := part_wt (v := x) (e := b)
    have w2 := part_wt (v := y) (e := c)
    refine k l6 _ (partP x b ++ [.t (sg u)] ++ partP y c) (S5.trans (Same.upd hl6)) (same_none S5 hl6) (by rw [upd_same, List.map_append, List.map_append]; rfl) (fun z hz => ?_) ?_ ?_ ?_
    · rcases List.mem_append.mp hz with hz | hz
      · rcases List.mem_append.mp hz with hz | hz
        · exact part_ok ob z hz
        · rw [List.mem_singleton.mp hz]; exact s1 _ (by omega)
      · exact part_ok oc z hz
    · rw [catP_app, catP_app, part_z, part_z]
      show bxT b (wrT b) ++ (sg u ++ "") ++ bxT c (wrT c) = _
      rw [app_nil']
      rfl
    · rw [wts_app, wts_app]
      show wts (partP x b) + 1 + wts (partP y c) < wtE b + wtE c + 6
      omega
    · rw [List.length_append, List.length_append]
      show _ + 1 + _ ≤ 10
      omega
def spWE (K : PySem.W.Frag) : Sp := fun ws H Q _ => ∃ (v : V) (e : Ex), ws = [v] ∧ GoE K H v e ∧ ∀ H', Same H H' → Q (.str (wrT e)) H'
theorem ok_write_expression (OT : OpT K w A) (T : Txt K mg A) : FnOk P w K mg base CX0 3 A.a_write_expression A.d_write_expression ["expression"] (spWE K) := by
  refine T.F_write_expression.ok (k := 2) sc_write_expression (fun ws H Q E ⟨_, _, e, _⟩ => by rw [e]; rfl) (fun cdv A' outer s H ws Q E hr h' => ?_)
  obtain ⟨v, e, rfl, o, k⟩ := h'
  refine ⟨_, pss_cons (ps_set (i := 1) sc_write_expression.nd rfl (Or.inl rfl) (pe_lst pa_nil))
  (pss_cons (ps_set (i := 2) sc_write_expression.nd rfl (Or.inl rfl) (pe_lst (pa_cons (pv 0) pa_nil)))
  (pss_cons (ps_while PassesOwn.never (pt_truth (pv 2) (by intro _; rfl))
  (pss_cons (ps_set (i := 3) sc_write_expression.nd rfl (Or.inl rfl) (pe_bm0 PySem.F.plainAttrs_list PySem.F.slot_list_pop PySem.F.type_list_pop mt_pop (pv 2)))
  (pss_one (ps_if (pt_val (pe_callB call_isi (by rfl) T.n_isinstance (by decide +kernel) (pa_cons (pv 3) (pa_cons (pe_bltn (v := .ty "str") (by rfl) T.n_str (by decide +kernel) rfl) pa_nil))))
  (pss_one (ps_expr (pe_bm PySem.F.plainAttrs_list PySem.F.slot_list_append PySem.F.type_list_append mt_append (pv 1) (pa_cons (pv 3) pa_nil))))
  (pss_one (ps_expr (pe_bm PySem.F.plainAttrs_list PySem.F.slot_list_extend PySem.F.type_list_extend mt_extend (pv 2) (pa_cons (pe_revL (pe_call (ok_pieces OT T) (hr.mono (by decide)) rfl T.g__pieces T.F__pieces.kp T.b__pieces .nil pass0 (pa_cons (pv 3) pa_nil))) pa_nil))))))))
  (pss_one (ps_ret (pe_join (pe_str) (pv 1)))))), ?_⟩
  have sl : sizeLine = 16777216 := sizeLine_eq
  refine asg_un (lst_un (nil_un ⟨Nat.zero_le _, fun pw hpw => ?_⟩))
  have s1 : Same H (upd H pw (.lst [])) := Same.upd hpw
  have e1 : upd H pw (.lst []) pw = some (.lst []) := upd_same
  show tSeq _ _ _ _ (upd H pw (.lst []))
  generalize upd H pw (.lst []) = H1 at s1 e1 ⊢
  refine set_sl (σ' := [some v, some (.ref pw), none, none]) rfl ?_
  refine asg_un (lst_un ((ta1 (te_var rfl)) _ ⟨by show 1 ≤ sizeLine; decide, fun pq hpq => ?_⟩))
  have s2 : Same H (upd H1 pq (.lst [v])) := s1.trans (Same.upd hpq)
  have e2 : upd H1 pq (.lst [v]) pq = some (.lst [v]) := upd_same
  have e1' := Same.upd hpq (o := .lst [v]) _ _ e1
  have npq : pw ≠ pq := fun z => by rw [z, hpq] at e1; cases e1
  have hpqH : H pq = none := same_none s1 hpq
  show tSeq _ _ _ _ (upd H1 pq (.lst [v]))
  generalize upd H1 pq (.lst [v]) = H2 at s2 e2 e1' ⊢
  refine set_sl (σ' := [some v, some (.ref pw), some (.ref pq), none]) rfl ?_
  have nH : ∀ {b : Addr} {u : HO}, H b = some u → b ≠ pw ∧ b ≠ pq := fun e => ⟨(fun z => by rw [z, hpw] at e; cases e), (fun z => by rw [z, hpqH] at e; cases e)⟩
  have wb := wt_le e
  have pb : 2 ^ dpE e ≤ 2 ^ 9 := Nat.pow_le_pow_right (by decide) o.d9
  refine ⟨fun m σ G => ∃ (rest : List Pc) (ws : List Str) (v3 : Option V), σ = [some v, some (.ref pw), some (.ref pq), v3] ∧ m = wts rest ∧ Same H G ∧ G pw = some (.lst (ws.map V.str)) ∧ G pq = some (.lst (rest.reverse.map Pc.v)) ∧ (∀ p ∈ rest, p.ok K H) ∧ catS ws ++ catP rest = wrT e ∧ ws.length + wts rest ≤ wtE e,
    ⟨_, [.x v e], [], none, rfl, rfl, s2, e1', e2, fun p hp => by rw [List.mem_singleton.mp hp]; exact o, by rw [show catS [] = "" from rfl, nil_app]; exact app_nil' _, by show 0 + (wtE e + 0) ≤ _; omega⟩, ?_⟩
  rintro m σ G ⟨rest, ws, v3, rfl, rfl, sG, ew, eq, ok, ec, lw⟩
  cases rest with
  | nil =>
    refine ⟨_, rfl, false, .inl ⟨_, SqL.of eq, rfl⟩, ?_⟩
    refine (if_neg Bool.false_ne_true).mpr ?_
    have ec : catS ws = wrT e := by
      have : catS ws ++ "" = wrT e := ec
      rw [app_nil'] at this
      exact this
    obtain ⟨vs, ks, wf⟩ := o.wf
    have sm := wr_small wf o.d9
    dsimp only
    refine ret_un ?_
    refine m1_un ?_
    refine Te.go te_c ⟨⟨_, rfl⟩, ?_⟩
    refine Te.go (te_var rfl) ?_
    refine ⟨"", pw, ws, rfl, rfl, .inl (SqL.of ew), ?_, ?_⟩
    · rw [← cat_len, ec]
      show (wrT e).length + ws.length * 0 ≤ 16777216
      omega
    · rw [TL.join_eq, join_cat, ec]
      exact k _ sG
  | cons p rest =>
    have eq' : G pq = some (.lst (rest.reverse.map Pc.v ++ [p.v])) := by rw [eq, List.reverse_cons, List.map_append]; rfl
    refine ⟨_, rfl, true, .inl ⟨_, SqL.of eq', by simp⟩, ?_⟩
    refine (if_pos rfl).mpr ?_
    refine ⟨fun σ' H' => ∃ (rest' : List Pc) (ws : List Str) (v3 : Option V), σ' = [some v, some (.ref pw), some (.ref pq), v3] ∧ wts rest' < wts (p :: rest) ∧ Same H H' ∧ H' pw = some (.lst (ws.map V.str)) ∧ H' pq = some (.lst (rest'.reverse.map Pc.v)) ∧ (∀ p ∈ rest', p.ok K H) ∧ catS ws ++ catP rest' = wrT e ∧ ws.length + wts rest' ≤ wtE e, fun σ' H' ⟨r', ws', v3', q1, q2, q3⟩ => ⟨wts r', q2, r', ws', v3', q1, rfl, q3⟩, ?_⟩
    refine sq_go (go_popA (te_var rfl) eq' ?_)
    have sG1 : Same H (upd G pq (.lst (rest.reverse.map Pc.v))) := fun b u h => by rw [upd_ne (nH h).2]; exact sG _ _ h
    have ew1 : upd G pq (.lst (rest.reverse.map Pc.v)) pw = some (.lst (ws.map V.str)) := by rw [upd_ne npq]; exact ew
    have eq1 : upd G pq (.lst (rest.reverse.map Pc.v)) pq = some (.lst (rest.reverse.map Pc.v)) := upd_same
    generalize upd G pq (.lst (rest.reverse.map Pc.v)) = G1 at sG1 ew1 eq1 ⊢
    refine gname_go (σ' := [some v, some (.ref pw), some (.ref pq), some p.v]) rfl ?_
    have wl := wts_len (p :: rest)
    have hp := ok p List.mem_cons_self
    have okr : ∀ q ∈ rest, q.ok K H := fun q hq => ok q (List.mem_cons_of_mem _ hq)
    cases p with
    | t z =>
      refine if_go (b := true) (tt_b (te_isi (.base (.str _)) (kit_ty (by decide +kernel)) (te_var rfl))) (fun _ => ?_) fun h => nomatch h
      refine go_appC (te_var rfl) ew1 ((ta1 (te_var rfl)) _ ⟨pw, _, .str z, rfl, rfl, ew1, by rw [List.length_map, sl]; omega, ?_⟩)
      refine ⟨rest, ws ++ [z], _, rfl, by show wts rest < 1 + wts rest; omega, fun b u h => by rw [upd_ne (nH h).1]; exact sG1 _ _ h, by rw [upd_same, List.map_append]; rfl, by rw [upd_ne (Ne.symm npq)]; exact eq1, okr, ?_, ?_⟩
      · rw [catS_app]
        show catS ws ++ (z ++ "") ++ catP rest = _
        rw [app_nil', app_as]
        exact ec
      · rw [List.length_append]
        have : wts (Pc.t z :: rest) = 1 + wts rest := rfl
        show ws.length + 1 + wts rest ≤ _
        omega
    | x y f =>
      have go : GoE K H y f := hp
      obtain ⟨ya, yxs, rfl, hy⟩ := exT go.rp
      refine if_go (b := false) (tt_b (te_isi (tyx_tup (Same.sqT sG1 hy)) (kit_ty (by decide +kernel)) (te_var rfl))) (fun h => nomatch h) fun _ => ?_
      refine drop_un (bm_un (Te.go (te_var rfl) ⟨.inl ⟨rfl, _, SqL.of eq1⟩, cons_un ?_⟩))
      refine go_call (ta1 (te_var rfl)) ⟨H, .ref ya, f, rfl, sG1, go, fun l3 G3 pl s3 hl3 el3 okp cp wp lp => ⟨l3, _, rfl, SqL.of el3, fun l4 hl4 => ?_⟩⟩
      have s4 : Same G1 (upd G3 l4 (.lst (pl.map Pc.v).reverse)) := s3.trans (Same.upd hl4)
      have e4 : upd G3 l4 (.lst (pl.map Pc.v).reverse) l4 = some (.lst (pl.map Pc.v).reverse) := upd_same
      generalize upd G3 l4 (.lst (pl.map Pc.v).reverse) = G4 at s4 e4 ⊢
      have n4 : l4 ≠ pq ∨ True := .inr trivial
      refine nil_un ⟨pq, l4, _, _, rfl, rfl, s4 _ _ eq1, e4, by rw [sl, List.length_map, List.length_reverse, List.length_reverse, List.length_map]; rw [List.length_cons] at wl; omega, ?_⟩
      have hw : wts (Pc.x (.ref ya) f :: rest) = wtE f + wts rest := rfl
      refine ⟨pl ++ rest, ws, _, rfl, by rw [wts_app, hw]; omega, fun b u h => by rw [upd_ne (nH h).2]; exact s4 _ _ (sG1 _ _ h), by rw [upd_ne npq]; exact s4 _ _ ew1, by rw [upd_same, List.reverse_append, List.map_append, List.map_reverse (l := pl)], fun q hq => (List.mem_append.mp hq).elim (okp q) (okr q), ?_, ?_⟩
      · rw [catP_app, cp]
        exact ec
      · rw [wts_app]
        omega
end
end K01

namespace K01
open PySem L2 YF YG
/-! ### the law -/
theorem isExp_ex {vars ks : List Str} (hv : ∀ x ∈ vars, NameOk x) (hk : ∀ x ∈ ks, NameOk x ∧ x ∉ vars) {n : Nat} {d : D} (h : IsExp vars ks n d) : ∃ e : Ex, d = e.d ∧ wfC vars ks e ∧ dpE e ≤ n := by
  induction h with
  | num z h1 h2 => exact ⟨.num z, rfl, ⟨h1, h2⟩, Nat.zero_le _⟩
  | loc x h => exact ⟨.var "local" (.str x), rfl, ⟨rfl, x, rfl, hv x h, h⟩, Nat.zero_le _⟩
  | cell x h i _ ih =>
    obtain ⟨e, rfl, h1, h2⟩ := ih
    exact ⟨.cell x e, rfl, ⟨(hk x h).1, h, (hk x h).2, h1⟩, Nat.succ_le_succ h2⟩
  | one w h a _ ih =>
    obtain ⟨e, rfl, h1, h2⟩ := ih
    exact ⟨.one w e, rfl, ⟨by rcases h with rfl | rfl <;> decide, h1⟩, Nat.succ_le_succ h2⟩
  | two w h a b _ _ iha ihb =>
    obtain ⟨e, rfl, h1, h2⟩ := iha
    obtain ⟨f, rfl, h3, h4⟩ := ihb
    exact ⟨.two w e f, rfl, ⟨h, h1, h3⟩, Nat.succ_le_succ (Nat.max_le.mpr ⟨h2, h4⟩)⟩
def spLaw (K : PySem.W.Frag) (A : Adr) : Sp := fun ws H Q _ => ∃ (a : Addr) (ns : List Int), ws = [.ref a] ∧ ns.length ≤ 63 ∧ SqL K H a (ns.map V.int) ∧ GxR.TabG H A.t_is_name ∧ ∀ H', Q (.bl true) H'
theorem sl_un {r : V → Option Int → Option Int → Hp → VK → Prop} {te : TE} {tl th : TO} {σ : L2.St} {H : Hp} {Q : VK} (h : te σ H fun x H1 => tl σ H1 fun l H2 => th σ H2 fun u H3 => r x l u H3 Q) : L2.tSl r te tl th σ H Q := h
theorem nt_un {te : TE} {σ : L2.St} {H : Hp} {Q : Bool → Hp → Prop} (h : te σ H fun v H1 => ∃ b, v = .bl b ∧ Q (!b) H1) : tNot (tB te) σ H Q := h
def dueD (e : Ex) : D := .lst (.cons (blkD e) .nil)
section
variable {P : Program} {w : World} {K : PySem.W.Frag} {mg : Str → Option Value} {base : Heap} {A : Adr}
theorem ok_law (DT : DcT K w A) (FT : FmT K w A) (OT : OpT K w A) (TB : GxR.TabB base mg A.c_is_name A.t_is_name) (T : Txt K mg A) : FnOk P w K mg base CX0 112 A.a_law A.d_law ["script"] (spLaw K A) := by
  refine T.F_law.ok (k := 111) sc_law (fun ws H Q E ⟨_, _, e, _⟩ => by rw [e]; rfl) (fun cdv A' outer s H ws Q E hr h' => ?_)
  obtain ⟨a, ns, rfl, hl, hS, tb, k⟩ := h'
  refine ⟨_, pss_cons (ps_set (i := 1) sc_law.nd rfl (Or.inl rfl) (pe_call (ok_law_draws T) (hr.mono (by decide)) rfl T.g__law_draws T.F__law_draws.kp T.b__law_draws .nil pass0 (pa_cons (pv 0) pa_nil)))
  (pss_cons (ps_set (i := 2) sc_law.nd rfl (Or.inl rfl) (pe_call (ok_law_names T) (hr.mono (by decide)) rfl T.g__law_names T.F__law_names.kp T.b__law_names .nil pass0 (pa_cons (pv 1) (pa_cons (pe_int) pa_nil))))
  (pss_cons (ps_set (i := 3) sc_law.nd rfl (Or.inl rfl) (pe_slice sl_list (pv 2) (po_some (pe_int)) (po_some (pe_op op_add (pe_int) (pe_call (ok_law_take T) (hr.mono (by decide)) rfl T.g__law_take T.F__law_take.kp T.b__law_take .nil pass0 (pa_cons (pv 1) (pa_cons (pe_int) pa_nil)))))))
  (pss_cons (ps_set (i := 4) sc_law.nd rfl (Or.inl rfl) (pe_call (ok_law_exp T 5) (hr.mono (by decide)) rfl T.g__law_exp T.F__law_exp.kp T.b__law_exp .nil pass0 (pa_cons (pv 1) (pa_cons (pv 3) (pa_cons (pe_slice sl_list (pv 2) (po_none) (po_some (pe_int))) (pa_cons (pe_op op_add (pe_int) (pe_call (ok_law_take T) (hr.mono (by decide)) rfl T.g__law_take T.F__law_take.kp T.b__law_take .nil pass0 (pa_cons (pv 1) (pa_cons (pe_int) pa_nil)))) pa_nil))))))
  (pss_cons (ps_set (i := 5) sc_law.nd rfl (Or.inl rfl) (pe_call (ok_law_written T 5) (hr.mono (by decide)) rfl T.g__law_written T.F__law_written.kp T.b__law_written .nil pass0 (pa_cons (pv 4) pa_nil)))
  (pss_cons (ps_set (i := 6) sc_law.nd rfl (Or.inl rfl) (pe_lst (pa_cons (pe_tup (pa_cons (pe_str) (pa_cons (pe_non) (pa_cons (pe_lst (pa_cons (pe_tup (pa_cons (pe_str) (pa_cons (pv 4) pa_nil))) pa_nil)) (pa_cons (pe_lst pa_nil) pa_nil))))) pa_nil)))
  (pss_cons (ps_if (PW.pt (pw_or (pt_not (pt_val (pe_call (ok_law_same T 14) (hr.mono (by decide)) rfl T.g__law_same T.F__law_same.kp T.b__law_same .nil pass0 (pa_cons (pe_call (ok_write_expression OT T) (hr.mono (by decide)) rfl T.g_write_expression T.F_write_expression.kp T.b_write_expression .nil pass0 (pa_cons (pv 4) pa_nil)) (pa_cons (pv 5) pa_nil))))) (pw_or1 (pt_not (pt_val (pe_call (ok_law_same T 14) (hr.mono (by decide)) rfl T.g__law_same T.F__law_same.kp T.b__law_same .nil pass0 (pa_cons (pe_call (ok_law_read DT FT TB T) (hr.mono (by decide)) rfl T.g__law_read T.F__law_read.kp T.b__law_read .nil pass0 (pa_cons (pv 5) (pa_cons (pv 2) (pa_cons (pv 3) pa_nil)))) (pa_cons (pv 6) pa_nil))))))))
  (pss_one (ps_ret (pe_bl)))
  (pss_nil))
  (pss_one (ps_ret (pe_call (ok_law_same T 14) (hr.mono (by decide)) rfl T.g__law_same T.F__law_same.kp T.b__law_same .nil pass0 (pa_cons (pe_call (ok_law_read DT FT TB T) (hr.mono (by decide)) rfl T.g__law_read T.F__law_read.kp T.b__law_read .nil pass0 (pa_cons (pe_call (ok_law_loose T 5) (hr.mono (by decide)) rfl T.g__law_loose T.F__law_loose.kp T.b__law_loose .nil pass0 (pa_cons (pv 1) (pa_cons (pv 4) pa_nil))) (pa_cons (pv 2) (pa_cons (pv 3) pa_nil)))) (pa_cons (pv 6) pa_nil))))))))))), ?_⟩
  refine asg_un (go_call (ta1 (te_var rfl)) ⟨a, ns, rfl, hS, hl, fun d ms H1 s1 hd ed => ?_⟩)
  refine set_sl (σ' := [some (.ref a), some (.ref d), none, none, none, none, none]) rfl ?_
  have sB : Same (kl [A.t_is_name] H) H1 := fun b o e => s1 _ _ (kl_inv e).2
  have oB : Off [d] (kl [A.t_is_name] H) := fun q hq => by
    rw [List.mem_singleton.mp hq]
    cases e : kl [A.t_is_name] H d with
    | none => rfl
    | some o => have := (kl_inv e).2; rw [hd] at this; cases this
  have oT : Off [A.t_is_name] (kl [A.t_is_name] H) := fun q hq => by
    rw [List.mem_singleton.mp hq]
    cases e : kl [A.t_is_name] H A.t_is_name with
    | none => rfl
    | some o => exact absurd (List.mem_singleton.mpr rfl) (kl_inv e).1
  have j1 : Ints [d] H1 := fun q hq => by
    rw [List.mem_singleton.mp hq]
    exact ⟨ms, ed⟩
  generalize kl [A.t_is_name] H = B at sB oB oT
  refine asg_un (go_call (ta_cons (te_var rfl) (ta_cons te_c ta_nil)) ⟨B, d, 5, rfl, by decide, sB, oB, j1, fun p zs H2 g2 j2 hp ep zl I => ?_⟩)
  refine set_sl (σ' := [some (.ref a), some (.ref d), some (.ref p), none, none, none, none]) rfl ?_
  obtain ⟨z1, z2, z3, z4, z5, rfl⟩ : ∃ z1 z2 z3 z4 z5, zs = [z1, z2, z3, z4, z5] := by
    match zs, zl with
    | [z1, z2, z3, z4, z5], _ => exact ⟨z1, z2, z3, z4, z5, rfl⟩
  have ht : ∃ o, H1 A.t_is_name = some o := by
    obtain ⟨ps, e, _⟩ := tb
    exact ⟨_, s1 _ _ e⟩
  have dt : A.t_is_name ∉ [d] := fun h => by
    obtain ⟨ps, e, _⟩ := tb
    rw [← List.mem_singleton.mp h, e] at hd
    cases hd
  have nms : ∀ z ∈ [z1, z2, z3, z4, z5], NameOk z := fun z hz => by
    obtain ⟨i, hi, e⟩ := List.getElem_of_mem hz
    exact (I.2 i z (by rw [List.getElem?_eq_getElem hi, e])).1
  have nd := I.1
  refine asg_un (sl_un (Te.go (te_var rfl) (Te.go te_c ⟨_, rfl, op_un (Te.go te_c (take_call (B := B) (i := 1) (b := 3) rfl (fun _ h => h) g2.nh oB j2 (by decide) fun z H3 l0 u0 g3 j3 same3 => ?_))⟩)))
  have pd : p ≠ d := fun e => by
    obtain ⟨ns', e2⟩ := j1 d (List.mem_singleton.mpr rfl)
    rw [e, e2] at hp
    cases hp
  have ep3 : H3 p = some (.lst ([z1, z2, z3, z4, z5].map V.str)) := by rw [same3 p pd]; exact ep
  refine ⟨_, _, rfl, rfl, _, rfl, p, _, rfl, SqL.of ep3, fun q hq => ?_⟩
  obtain ⟨vs, ecut, hvs, lvs, ndv⟩ : ∃ vs : List Str, cutV ([z1, z2, z3, z4, z5].map V.str) (some 2) (some (2 + z)) = vs.map V.str ∧ (∀ v ∈ vs, v = z3 ∨ v = z4) ∧ vs.length ≤ 2 ∧ vs.Nodup := by
    have hz : z = 0 ∨ z = 1 ∨ z = 2 := by omega
    rcases hz with rfl | rfl | rfl
    · exact ⟨[], rfl, fun v h => (nomatch h), by decide, List.nodup_nil⟩
    · exact ⟨[z3], rfl, fun v h => .inl (List.mem_singleton.mp h), (by decide : 1 ≤ 2), by simp⟩
    · refine ⟨[z3, z4], rfl, fun v h => by simpa using h, (by decide : 2 ≤ 2), ?_⟩
      have : z3 ≠ z4 := List.pairwise_iff_getElem.mp nd 2 3 (by show 2 < 5; decide) (by show 3 < 5; decide) (by decide)
      simpa using this
  rw [ecut]
  have n34 : ∀ v ∈ vs, v ∈ [z1, z2, z3, z4, z5] := fun v h => by rcases hvs v h with rfl | rfl <;> simp
  have hv : ∀ v ∈ vs, NameOk v := fun v h => nms v (n34 v h)
  have ne : ∀ (i j : Nat) (hi : i < 5) (hj : j < 5), i < j → [z1, z2, z3, z4, z5][i] ≠ [z1, z2, z3, z4, z5][j] := fun i j hi hj h => List.pairwise_iff_getElem.mp nd i j hi hj h
  have n13 : z1 ≠ z3 := ne 0 2 (by decide) (by decide) (by decide)
  have n14 : z1 ≠ z4 := ne 0 3 (by decide) (by decide) (by decide)
  have n23 : z2 ≠ z3 := ne 1 2 (by decide) (by decide) (by decide)
  have n24 : z2 ≠ z4 := ne 1 3 (by decide) (by decide) (by decide)
  have n12 : z1 ≠ z2 := ne 0 1 (by decide) (by decide) (by decide)
  have hk : ∀ x ∈ [z1, z2], NameOk x ∧ x ∉ vs := fun x hx => by
    simp only [List.mem_cons, List.not_mem_nil, or_false] at hx
    refine hx.elim (fun e => ?_) (fun e => ?_)
    · rw [e]
      exact ⟨nms _ (by simp), fun h => (hvs _ h).elim n13 n14⟩
    · rw [e]
      exact ⟨nms _ (by simp), fun h => (hvs _ h).elim n23 n24⟩
  have hv2 : ∀ v ∈ vs, NameOk v ∧ v ∉ [z1, z2] := fun v h => ⟨hv v h, fun hm => (hk v hm).2 h⟩
  have g4 : Grow [d] B H3 (upd B q (.lst (vs.map V.str))) (upd H3 q (.lst (vs.map V.str))) := Grow.new g3.nh hq
  have dq : d ≠ q := fun e => by
    obtain ⟨ns', e2⟩ := j3 d (List.mem_singleton.mpr rfl)
    rw [e, hq] at e2
    cases e2
  have o4 := g4.offI oB j3
  have j4 : Ints [d] (upd H3 q (.lst (vs.map V.str))) := fun b hb => by
    obtain ⟨ns', e2⟩ := j3 d (List.mem_singleton.mpr rfl)
    rw [List.mem_singleton.mp hb]
    exact ⟨ns', by rw [upd_ne dq]; exact e2⟩
  have eqN : upd B q (.lst (vs.map V.str)) q = some (.lst (vs.map V.str)) := upd_same
  have G4 := (g2.trans g3).trans g4
  have ep4 := g4.keep p _ (fun h => pd (List.mem_singleton.mp h)) ep3
  generalize upd B q (.lst (vs.map V.str)) = N4 at g4 o4 eqN G4
  generalize upd H3 q (.lst (vs.map V.str)) = H4 at g4 j4 G4 ep4 ⊢
  dsimp only
  refine set_sl (σ' := [some (.ref a), some (.ref d), some (.ref p), some (.ref q), none, none, none]) rfl ?_
  -- the expression
  refine asg_un (call_un (cons_un (Te.go (te_var rfl) (cons_un (Te.go (te_var rfl) (cons_un (sl_un (Te.go (te_var rfl) (Te.go te_c ⟨_, rfl, p, _, rfl, SqL.of ep4, fun c hc => ?_⟩)))))))))
  rw [show cutV ([z1, z2, z3, z4, z5].map V.str) none (some 2) = [z1, z2].map V.str from rfl]
  have g5 : Grow [d] N4 H4 (upd N4 c (.lst ([z1, z2].map V.str))) (upd H4 c (.lst ([z1, z2].map V.str))) := Grow.new g4.nh hc
  have dc : d ≠ c := fun e => by
    obtain ⟨ns', e2⟩ := j4 d (List.mem_singleton.mpr rfl)
    rw [e, hc] at e2
    cases e2
  have o5 := g5.offI o4 j4
  have j5 : Ints [d] (upd H4 c (.lst ([z1, z2].map V.str))) := fun b hb => by
    obtain ⟨ns', e2⟩ := j4 d (List.mem_singleton.mpr rfl)
    rw [List.mem_singleton.mp hb]
    exact ⟨ns', by rw [upd_ne dc]; exact e2⟩
  have ecN : upd N4 c (.lst ([z1, z2].map V.str)) c = some (.lst ([z1, z2].map V.str)) := upd_same
  have G5 := G4.trans g5
  have eqN5 := g5.bn _ _ eqN
  generalize upd N4 c (.lst ([z1, z2].map V.str)) = N5 at g5 o5 ecN G5 eqN5
  show (tCons _ _) _ (upd H4 c (.lst ([z1, z2].map V.str))) _
  generalize upd H4 c (.lst ([z1, z2].map V.str)) = H5 at g5 j5 G5 ⊢
  refine cons_un (op_un (Te.go te_c (take_call (B := N5) (i := 1) (b := 4) rfl (fun _ h => h) g5.nh o5 j5 (by decide) fun z H6 l1 u1 g6 j6 same6 => ?_)))
  obtain ⟨dp, rfl⟩ := Int.eq_ofNat_of_zero_le l1
  refine ⟨_, _, rfl, rfl, nil_un ?_⟩
  refine ⟨N5, d, .ref q, .ref c, vs, [z1, z2], 1 + dp, by show [V.ref d, V.ref q, V.ref c, V.int (1 + (dp : Int))] = _; rw [show (1 + (dp : Int)) = ((1 + dp : Nat) : Int) by omega], g6.nh, o5, j6, ⟨q, _, rfl, SqL.of eqN5, by rw [List.length_map]; omega, strRow_rp vs⟩, ⟨c, _, rfl, SqL.of ecN, (by decide : 2 ≤ 100000), strRow_rp [z1, z2]⟩, by omega, fun v de N H7 g7 j7 hE rx => ?_⟩
  obtain ⟨e, rfl, we, de⟩ := isExp_ex hv hk hE
  have G7 := (G5.trans g6).trans g7
  have oN := G7.offI oB j1
  have oT7 : Off [A.t_is_name] N := G7.off oT fun b hb => by rw [List.mem_singleton.mp hb]; exact ht
  have tb7 : GxR.TabG H7 A.t_is_name := by
    obtain ⟨ps, e1, e2⟩ := tb
    exact ⟨ps, G7.keep _ _ dt (s1 _ _ e1), e2⟩
  have G7b := (g3.trans g4).trans ((g5.trans g6).trans g7)
  have ep7 : H7 p = some (.lst ([z1, z2, z3, z4, z5].map V.str)) := G7b.keep _ _ (fun h => pd (List.mem_singleton.mp h)) ep
  have eq7 : H7 q = some (.lst (vs.map V.str)) := g7.nh _ _ (g7.bn _ _ eqN5)
  have N7 := G7.nh
  refine set_sl (σ' := [some (.ref a), some (.ref d), some (.ref p), some (.ref q), some v, none, none]) rfl ?_
  have d4 : dpE e ≤ 4 := by omega
  -- its written form
  refine asg_un (go_call (ta1 (te_var rfl)) ⟨v, e, rfl, ⟨Rp.mono N7 rx, ⟨_, _, we⟩, by omega, by omega⟩, fun H8 s8 => ?_⟩)
  refine set_sl (σ' := [some (.ref a), some (.ref d), some (.ref p), some (.ref q), some v, some (.str (wrT e)), none]) rfl ?_
  -- what is due
  have bs : sizeLine = 16777216 := sizeLine_eq
  refine asg_un (lst_un (cons_un (tup_un (cons_un (Te.go te_c (cons_un (Te.go te_c (cons_un (lst_un (cons_un (tup_un ((ta_cons te_c (ta1 (te_var rfl))) _ ⟨by rw [bs]; exact (by decide : 2 ≤ 16777216), fun t1 ht1 => nil_un ⟨by rw [bs]; exact (by decide : 1 ≤ 16777216), fun b1 hb1 => cons_un (lst_un (nil_un ⟨Nat.zero_le _, fun b2 hb2 => nil_un ⟨by rw [bs]; exact (by decide : 4 ≤ 16777216), fun t2 ht2 => nil_un ⟨by rw [bs]; exact (by decide : 1 ≤ 16777216), fun du hdu => ?_⟩⟩⟩))⟩⟩))))))))))))
  have sa : Same H8 (upd H8 t1 (.tup [.str "later", v])) := Same.upd ht1
  have ea : upd H8 t1 (.tup [.str "later", v]) t1 = some (.tup [.str "later", v]) := upd_same
  generalize upd H8 t1 (.tup [.str "later", v]) = Ha at sa ea hb1 hb2 ht2 hdu ⊢
  have sb : Same Ha (upd Ha b1 (.lst [.ref t1])) := Same.upd hb1
  have eb : upd Ha b1 (.lst [.ref t1]) b1 = some (.lst [.ref t1]) := upd_same
  have nb1 : b1 ≠ t1 := fun z => by rw [z, ea] at hb1; cases hb1
  generalize upd Ha b1 (.lst [.ref t1]) = Hb at sb eb hb2 ht2 hdu ⊢
  have sc : Same Hb (upd Hb b2 (.lst [])) := Same.upd hb2
  have ec : upd Hb b2 (.lst []) b2 = some (.lst []) := upd_same
  generalize upd Hb b2 (.lst []) = Hc at sc ec ht2 hdu ⊢
  have sd : Same Hc (upd Hc t2 (.tup [.str "block", .non, .ref b1, .ref b2])) := Same.upd ht2
  have ed' : upd Hc t2 (.tup [.str "block", .non, .ref b1, .ref b2]) t2 = some (.tup [.str "block", .non, .ref b1, .ref b2]) := upd_same
  generalize upd Hc t2 (.tup [.str "block", .non, .ref b1, .ref b2]) = Hd at sd ed' hdu ⊢
  have se : Same Hd (upd Hd du (.lst [.ref t2])) := Same.upd hdu
  have ee : upd Hd du (.lst [.ref t2]) du = some (.lst [.ref t2]) := upd_same
  show tSeq _ _ _ _ (upd Hd du (.lst [.ref t2]))
  generalize upd Hd du (.lst [.ref t2]) = He at se ee ⊢
  have S8 : Same H7 He := s8.trans (sa.trans (sb.trans (sc.trans (sd.trans se))))
  have tb8 := TabG.same tb7 S8
  have d8 : ∃ o, H8 d = some o := by
    obtain ⟨ns', e2⟩ := j7 d (List.mem_singleton.mpr rfl)
    exact ⟨_, s8 _ _ e2⟩
  have nd1 : ∀ {G : Hp} {b : Addr}, Same H8 G → G b = none → b ≠ d := fun {G b} sg hb z => by
    obtain ⟨o, e2⟩ := d8
    rw [z, sg _ _ e2] at hb
    cases hb
  have x1 : t1 ≠ d := nd1 (Same.refl H8) ht1
  have x2 : b1 ≠ d := nd1 sa hb1
  have x3 : b2 ≠ d := nd1 (sa.trans sb) hb2
  have x4 : t2 ≠ d := nd1 (sa.trans (sb.trans sc)) ht2
  have x5 : du ≠ d := nd1 (sa.trans (sb.trans (sc.trans sd))) hdu
  have nt : ∀ {b : Addr} {o : HO}, He b = some o → (∀ t, o ≠ .tbl t) → b ≠ A.t_is_name := fun {b o} h n hm => by
    obtain ⟨ps, e1, _⟩ := tb8
    rw [hm, e1] at h
    exact n _ (Option.some.inj h).symm
  have fr : ∀ {b : Addr} {o : HO}, He b = some o → (∀ t, o ≠ .tbl t) → b ≠ d → kl [A.t_is_name, d] He b = some o := fun {b o} h n hd => kl_at h fun hm => by
    rcases List.mem_cons.mp hm with hm | hm
    · exact nt h n hm
    · exact hd (List.mem_singleton.mp hm)
  have sN : Same N (kl [A.t_is_name, d] He) := fun b o eb => kl_at (S8 _ _ (N7 _ _ eb)) fun hb => by
    rcases List.mem_cons.mp hb with hb | hb
    · rw [hb, oT7 _ (List.mem_singleton.mpr rfl)] at eb; cases eb
    · rw [List.mem_singleton.mp hb, oN _ (List.mem_singleton.mpr rfl)] at eb; cases eb
  have rdue : Rp K (kl [A.t_is_name, d] He) (dueD e) [.ref du] := by
    have h1 := fr (sb.trans (sc.trans (sd.trans se)) _ _ ea) (by intro _ z; cases z) x1
    have h2 := fr (sc.trans (sd.trans se) _ _ eb) (by intro _ z; cases z) x2
    have h3 := fr (sd.trans se _ _ ec) (by intro _ z; cases z) x3
    have h4 := fr (se _ _ ed') (by intro _ z; cases z) x4
    have h5 := fr ee (by intro _ z; cases z) x5
    exact ⟨du, _, rfl, SqL.of h5, (by decide : 1 ≤ 100000), _, _, rfl, ⟨t2, _, rfl, SqT.of h4, (by decide : 4 ≤ 100000), _, _, rfl, rfl, _, _, rfl, rfl, _, _, rfl, ⟨b1, _, rfl, SqL.of h2, (by decide : 1 ≤ 100000), _, _, rfl, ⟨t1, _, rfl, SqT.of h1, (by decide : 2 ≤ 100000), _, _, rfl, rfl, _, _, rfl, Rp.mono sN rx, rfl⟩, rfl⟩, _, _, rfl, ⟨b2, _, rfl, SqL.of h3, Nat.zero_le _, rfl⟩, rfl⟩, rfl⟩
  have pT : p ≠ A.t_is_name := nt (S8 _ _ ep7) (by intro _ z; cases z)
  have qT : q ≠ A.t_is_name := nt (S8 _ _ eq7) (by intro _ z; cases z)
  refine set_sl (σ' := [some (.ref a), some (.ref d), some (.ref p), some (.ref q), some v, some (.str (wrT e)), some (.ref du)]) rfl ?_
  obtain ⟨h1, h2, h3⟩ := hE.good
  have dok : (dueD e).ok = true := by simp [dueD, blkD, stD, D.ok, D.isRow, h1, h2]
  have ddep : (dueD e).dep < 14 := by
    simp only [dueD, blkD, stD, D.dep]
    omega
  have nz : ∀ z ∈ [z1, z2, z5], NameOk z := fun z hz => nms z (by simp at hz ⊢; rcases hz with h | h | h <;> simp [h])
  -- what is read is due
  have read : ∀ {G : Hp} {u2 : Addr} {s : V} {Q : VK}, Kept [A.t_is_name, d] He G → G u2 = some (.lst [s]) → Rp K (kl [A.t_is_name] G) (blkD e) [s] → Q (.bl true) G → spSame K 14 [.ref u2, .ref du] G Q E0 := fun {G u2 s Q} k1 hu rs hq =>
    ⟨.ref u2, .ref du, dueD e, rfl, ⟨u2, _, rfl, SqL.of hu, (by decide : 1 ≤ 100000), _, _, rfl, Rp.mono kl_sub rs, rfl⟩, Rp.mono kl_sub (Rp.mono k1.kl rdue), rfl, dok, ddep, hq⟩
  have wider : ∀ {G G' : Hp}, Kept [A.t_is_name] G G' → Kept [A.t_is_name, d] G G' := fun k b o hb e => k b o (fun h => hb (by rw [List.mem_singleton.mp h]; exact List.mem_cons_self)) e
  obtain ⟨lw, tw⟩ := tE_wr we
  refine sq_go (iff_un (or_un2 (nt_un (call_un (cons_un (go_call (ta1 (te_var rfl)) ⟨v, e, rfl, ⟨Rp.mono (fun b o eb => S8 _ _ (N7 _ _ eb)) rx, ⟨_, _, we⟩, by omega⟩, fun Hw sw => cons_un (Te.go (te_var rfl) (nil_un ⟨.str (wrT e), .str (wrT e), .str (wrT e), rfl, rfl, rfl, rfl, rfl, (by decide : 0 < 14), true, rfl, ?_⟩))⟩))))))
  have k1 : Kept [A.t_is_name] He Hw := Kept.of sw
  have tbw := TabG.same tb8 sw
  rw [if_neg (show ¬ ((!true) = true) by decide)]
  refine nt_un (call_un (cons_un (call_un (cons_un (Te.go (te_var rfl) (cons_un (Te.go (te_var rfl) (cons_un (Te.go (te_var rfl) (nil_un ⟨wrT e, p, q, z1, z2, z3, z4, z5, vs, e, lw, rfl, sw _ _ (S8 _ _ ep7), sw _ _ (S8 _ _ eq7), tbw, nz z1 (by simp), nz z2 (by simp), nz z5 (by simp), Ne.symm n12, hv2, ndv, by omega, tw, d4, fun u2 s' G k' tb' hu rs => cons_un (Te.go (te_var rfl) (nil_un (read (wider (k1.trans k')) hu rs ⟨true, rfl, ?_⟩)))⟩))))))))))
  have kG := k1.trans k'
  have sG : Same N G := fun b o eb => kG b o (fun hb => by rw [List.mem_singleton.mp hb, oT7 _ (List.mem_singleton.mpr rfl)] at eb; cases eb) (S8 _ _ (N7 _ _ eb))
  have jG : Ints [d] G := fun b hb => by
    obtain ⟨ns', e2⟩ := j7 d (List.mem_singleton.mpr rfl)
    rw [List.mem_singleton.mp hb]
    exact ⟨ns', kG _ _ (fun h => dt (by rw [List.mem_singleton.mp h]; exact List.mem_singleton.mpr rfl)) (S8 _ _ e2)⟩
  have epG : G p = some (.lst ([z1, z2, z3, z4, z5].map V.str)) := kG _ _ (fun h => pT (List.mem_singleton.mp h)) (S8 _ _ ep7)
  have eqG : G q = some (.lst (vs.map V.str)) := kG _ _ (fun h => qT (List.mem_singleton.mp h)) (S8 _ _ eq7)
  rw [if_neg (show ¬ ((!true) = true) by decide)]
  refine ret_un (call_un (cons_un (call_un (cons_un (go_call (ta_cons (te_var rfl) (ta1 (te_var rfl))) ⟨d, N, v, e, vs, [z1, z2], rfl, sG, oN, jG, ⟨rx, ⟨_, _, we⟩, by omega, by omega⟩, we, fun zl l G1 ld tz => ?_⟩)))))
  have kd : ∀ {b : Addr} {o : HO}, b ≠ d → G b = some o → G1 b = some o := fun {b o} hb e => ld.g.keep _ _ (fun h => hb (List.mem_singleton.mp h)) e
  have tb1 : GxR.TabG G1 A.t_is_name := by
    obtain ⟨ps, e1, e2⟩ := tb'
    exact ⟨ps, kd (fun h => dt (by rw [h]; exact List.mem_singleton.mpr rfl)) e1, e2⟩
  refine cons_un (Te.go (te_var rfl) (cons_un (Te.go (te_var rfl) (nil_un ⟨zl, p, q, z1, z2, z3, z4, z5, vs, e, l, rfl, kd pd epG, kd (Ne.symm dq) eqG, tb1, nz z1 (by simp), nz z2 (by simp), nz z5 (by simp), Ne.symm n12, hv2, ndv, by omega, tz, d4, fun u3 s3 G2 k2 tb2 hu2 rs2 => cons_un (Te.go (te_var rfl) (nil_un (read (fun b o hb e => ?_) hu2 rs2 (k _))))⟩))))
  exact k2 b o (fun h => hb (by rw [List.mem_singleton.mp h]; exact List.mem_cons_self)) (kd (fun h => hb (by rw [h]; simp)) (wider kG b o hb e))
end
end K01

namespace K01
open PySem L2 YF NdefX
theorem kdct_of {K : PySem.W.Frag} {w : World} {a : Addr} {es : Array DictEntry} {n : Nat} {kvs : List (Str × He.Dv)} {x : Str} {dv : He.Dv} (kd : KDict K w a es n) (h : He.valsB K a kvs = true) (m : (x, dv) ∈ kvs) : KDct K w a x (dv.v K) := by
  obtain ⟨u, e, r⟩ := He.valsB_ok h m
  obtain ⟨k1, k2, k3⟩ := kd
  exact ⟨es, n, u, k1, k2, e, r⟩
theorem khas_of {K : PySem.W.Frag} {w : World} {a : Addr} {es : Array DictEntry} {n : Nat} {kvs : List (Str × He.Dv)} {x : Str} {dv : He.Dv} (kd : KDict K w a es n) (h : He.valsB K a kvs = true) (m : (x, dv) ∈ kvs) : KHas K w a x true := by
  obtain ⟨u, e, r⟩ := He.valsB_ok h m
  obtain ⟨k1, k2, k3⟩ := kd
  exact ⟨es, n, some u, k1, k2, k3, e, rfl⟩
theorem khas_no {K : PySem.W.Frag} {w : World} {a : Addr} {es : Array DictEntry} {n : Nat} {x : Str} (kd : KDict K w a es n) (h : PySem.W.nsIn K a x = some none) : KHas K w a x false := by
  obtain ⟨k1, k2, k3⟩ := kd
  exact ⟨es, n, none, k1, k2, k3, h, rfl⟩
theorem no_op {ops : List (Str × Str)} {z : Str} (h : ∀ p ∈ ops, p.1 ≠ z) : ¬ ∃ u, (z, u) ∈ ops := fun ⟨u, m⟩ => h _ m rfl
theorem law_at {K : PySem.W.Frag} {A : Adr} {H : Hp} {a : Addr} {ns : List Int} (hl : ns.length ≤ 63) (ht : ∀ p ∈ [(A.c_is_name, A.t_is_name)], H p.2 = some (.tbl #[])) (hS : SqL K H a (ns.map V.int)) : spLaw K A [.ref a] H (fun v _ => v = .bl true) fun _ _ _ => False :=
  ⟨a, ns, rfl, hl, hS, ⟨#[], ht _ List.mem_cons_self, trivial⟩, fun _ => rfl⟩
theorem law_ok {P : Program} {w : World} {K : PySem.W.Frag} {mg : Str → Option Value} {base : Heap} {A : Adr} (TB : ∀ p ∈ [(A.c_is_name, A.t_is_name)], LamX.TabB base mg p.1 p.2) (DT : DcT K w A) (FT : FmT K w A) (OT : OpT K w A) (T : Txt K mg A) : FnOk P w K mg base CX0 112 A.a_law A.d_law ["script"] (spLaw K A) := ok_law DT FT OT (have t := TB _ List.mem_cons_self; ⟨t.1, t.2, t.3⟩) T
theorem facts {w : World} {mg : Str → Option Value} {fa' : Addr} {h : Heap} (G : h.Ns mainGlobals mg) (hfa : mg "law" = some (.ref fa')) {K : PySem.W.Frag} (X : K.In h) (c : He.SaysX fa fn ts tf exF w h K) : LamX.LawAtS PySem.Challenge.rw_handshaker_k01_expressions_written_and_r w K CX0 112 63 "script" mg fa' h := by
  have d := c.t.d
  obtain ⟨d0, D0⟩ : ∃ fd, FunD K "parts_of" "parts_of" (defArgs s_parts_of) (defBody s_parts_of) (defScope s_parts_of) [] [] (He.fAd K ("parts_of", none)) fd := d.def_ 0
  have B0 : Binds K d0 ["expression"] [] := D0.bindsN (fun _ _ _ _ _ _ us hl => by
    match us, hl with
    | [_], _ => rfl)
  obtain ⟨d1, D1⟩ : ∃ fd, FunD K "lists_of" "lists_of" (defArgs s_lists_of) (defBody s_lists_of) (defScope s_lists_of) [] [] (He.fAd K ("lists_of", none)) fd := d.def_ 1
  have B1 : Binds K d1 ["statement"] [] := D1.bindsN (fun _ _ _ _ _ _ us hl => by
    match us, hl with
    | [_], _ => rfl)
  obtain ⟨d2, D2⟩ : ∃ fd, FunD K "write_expression" "write_expression" (defArgs s_write_expression) (defBody s_write_expression) (defScope s_write_expression) [] [] (He.fAd K ("write_expression", none)) fd := d.def_ 2
  have B2 : Binds K d2 ["expression"] [] := D2.bindsN (fun _ _ _ _ _ _ us hl => by
    match us, hl with
    | [_], _ => rfl)
  obtain ⟨d3, D3⟩ : ∃ fd, FunD K "_pieces" "_pieces" (defArgs s_pieces) (defBody s_pieces) (defScope s_pieces) [] [] (He.fAd K ("_pieces", none)) fd := d.def_ 3
  have B3 : Binds K d3 ["expression"] [] := D3.bindsN (fun _ _ _ _ _ _ us hl => by
    match us, hl with
    | [_], _ => rfl)
  obtain ⟨d4, D4⟩ : ∃ fd, FunD K "_part" "_part" (defArgs s_part) (defBody s_part) (defScope s_part) [] [] (He.fAd K ("_part", none)) fd := d.def_ 4
  have B4 : Binds K d4 ["expression"] [] := D4.bindsN (fun _ _ _ _ _ _ us hl => by
    match us, hl with
    | [_], _ => rfl)
  obtain ⟨d5, D5⟩ : ∃ fd, FunD K "read_expression" "read_expression" (defArgs s_read_expression) (defBody s_read_expression) (defScope s_read_expression) [] [] (He.fAd K ("read_expression", none)) fd := d.def_ 5
  have B5 : Binds K d5 ["line"] [] := D5.bindsN (fun _ _ _ _ _ _ us hl => by
    match us, hl with
    | [_], _ => rfl)
  obtain ⟨d6, D6⟩ : ∃ fd, FunD K "read_index" "read_index" (defArgs s_read_index) (defBody s_read_index) (defScope s_read_index) [] [] (He.fAd K ("read_index", none)) fd := d.def_ 6
  have B6 : Binds K d6 ["line"] [] := D6.bindsN (fun _ _ _ _ _ _ us hl => by
    match us, hl with
    | [_], _ => rfl)
  obtain ⟨d7, D7⟩ : ∃ fd, FunD K "_read_and" "_read_and" (defArgs s_read_and) (defBody s_read_and) (defScope s_read_and) [] [] (He.fAd K ("_read_and", none)) fd := d.def_ 7
  have B7 : Binds K d7 ["line"] [] := D7.bindsN (fun _ _ _ _ _ _ us hl => by
    match us, hl with
    | [_], _ => rfl)
  obtain ⟨d8, D8⟩ : ∃ fd, FunD K "_read_not" "_read_not" (defArgs s_read_not) (defBody s_read_not) (defScope s_read_not) [] [] (He.fAd K ("_read_not", none)) fd := d.def_ 8
  have B8 : Binds K d8 ["line"] [] := D8.bindsN (fun _ _ _ _ _ _ us hl => by
    match us, hl with
    | [_], _ => rfl)
  obtain ⟨d9, D9⟩ : ∃ fd, FunD K "_read_comparison" "_read_comparison" (defArgs s_read_comparison) (defBody s_read_comparison) (defScope s_read_comparison) [] [] (He.fAd K ("_read_comparison", none)) fd := d.def_ 9
  have B9 : Binds K d9 ["line"] [] := D9.bindsN (fun _ _ _ _ _ _ us hl => by
    match us, hl with
    | [_], _ => rfl)
  obtain ⟨d10, D10⟩ : ∃ fd, FunD K "_read_sum" "_read_sum" (defArgs s_read_sum) (defBody s_read_sum) (defScope s_read_sum) [] [] (He.fAd K ("_read_sum", none)) fd := d.def_ 10
  have B10 : Binds K d10 ["line"] [] := D10.bindsN (fun _ _ _ _ _ _ us hl => by
    match us, hl with
    | [_], _ => rfl)
  obtain ⟨d11, D11⟩ : ∃ fd, FunD K "_read_product" "_read_product" (defArgs s_read_product) (defBody s_read_product) (defScope s_read_product) [] [] (He.fAd K ("_read_product", none)) fd := d.def_ 11
  have B11 : Binds K d11 ["line"] [] := D11.bindsN (fun _ _ _ _ _ _ us hl => by
    match us, hl with
    | [_], _ => rfl)
  obtain ⟨d12, D12⟩ : ∃ fd, FunD K "_read_sign" "_read_sign" (defArgs s_read_sign) (defBody s_read_sign) (defScope s_read_sign) [] [] (He.fAd K ("_read_sign", none)) fd := d.def_ 12
  have B12 : Binds K d12 ["line"] [] := D12.bindsN (fun _ _ _ _ _ _ us hl => by
    match us, hl with
    | [_], _ => rfl)
  obtain ⟨d13, D13⟩ : ∃ fd, FunD K "_read_atom" "_read_atom" (defArgs s_read_atom) (defBody s_read_atom) (defScope s_read_atom) [] [] (He.fAd K ("_read_atom", none)) fd := d.def_ 13
  have B13 : Binds K d13 ["line"] [] := D13.bindsN (fun _ _ _ _ _ _ us hl => by
    match us, hl with
    | [_], _ => rfl)
  obtain ⟨d14, D14⟩ : ∃ fd, FunD K "_read_parentheses" "_read_parentheses" (defArgs s_read_parentheses) (defBody s_read_parentheses) (defScope s_read_parentheses) [] [] (He.fAd K ("_read_parentheses", none)) fd := d.def_ 14
  have B14 : Binds K d14 ["line"] [] := D14.bindsN (fun _ _ _ _ _ _ us hl => by
    match us, hl with
    | [_], _ => rfl)
  obtain ⟨d15, D15⟩ : ∃ fd, FunD K "read_cell" "read_cell" (defArgs s_read_cell) (defBody s_read_cell) (defScope s_read_cell) [] [] (He.fAd K ("read_cell", none)) fd := d.def_ 15
  have B15 : Binds K d15 ["line", "word"] [] := D15.bindsN (fun _ _ _ _ _ _ us hl => by
    match us, hl with
    | [_, _], _ => rfl)
  obtain ⟨d16, D16⟩ : ∃ fd, FunD K "_read_plain_cell" "_read_plain_cell" (defArgs s_read_plain_cell) (defBody s_read_plain_cell) (defScope s_read_plain_cell) [] [] (He.fAd K ("_read_plain_cell", none)) fd := d.def_ 16
  have B16 : Binds K d16 ["line", "name"] [] := D16.bindsN (fun _ _ _ _ _ _ us hl => by
    match us, hl with
    | [_, _], _ => rfl)
  obtain ⟨d17, D17⟩ : ∃ fd, FunD K "read_statements" "read_statements" (defArgs s_read_statements) (defBody s_read_statements) (defScope s_read_statements) [] [] (He.fAd K ("read_statements", none)) fd := d.def_ 17
  have B17 : Binds K d17 ["line", "word"] [] := D17.bindsN (fun _ _ _ _ _ _ us hl => by
    match us, hl with
    | [_, _], _ => rfl)
  obtain ⟨d18, D18⟩ : ∃ fd, FunD K "may_stand" "may_stand" (defArgs s_may_stand) (defBody s_may_stand) (defScope s_may_stand) [] [] (He.fAd K ("may_stand", none)) fd := d.def_ 18
  have B18 : Binds K d18 ["word", "in_block"] [] := D18.bindsN (fun _ _ _ _ _ _ us hl => by
    match us, hl with
    | [_, _], _ => rfl)
  obtain ⟨d19, D19⟩ : ∃ fd, FunD K "may_declare" "may_declare" (defArgs s_may_declare) (defBody s_may_declare) (defScope s_may_declare) [] [] (He.fAd K ("may_declare", none)) fd := d.def_ 19
  have B19 : Binds K d19 ["word"] [] := D19.bindsN (fun _ _ _ _ _ _ us hl => by
    match us, hl with
    | [_], _ => rfl)
  obtain ⟨d20, D20⟩ : ∃ fd, FunD K "_read_later" "_read_later" (defArgs s_read_later) (defBody s_read_later) (defScope s_read_later) [] [] (He.fAd K ("_read_later", none)) fd := d.def_ 20
  have B20 : Binds K d20 ["line"] [] := D20.bindsN (fun _ _ _ _ _ _ us hl => by
    match us, hl with
    | [_], _ => rfl)
  obtain ⟨d21, D21⟩ : ∃ fd, FunD K "_read_atomic" "_read_atomic" (defArgs s_read_atomic) (defBody s_read_atomic) (defScope s_read_atomic) [] [] (He.fAd K ("_read_atomic", none)) fd := d.def_ 21
  have B21 : Binds K d21 ["line"] [] := D21.bindsN (fun _ _ _ _ _ _ us hl => by
    match us, hl with
    | [_], _ => rfl)
  obtain ⟨d22, D22⟩ : ∃ fd, FunD K "measure" "measure" (defArgs s_measure) (defBody s_measure) (defScope s_measure) [] [] (He.fAd K ("measure", none)) fd := d.def_ 22
  have B22 : Binds K d22 ["statements"] [] := D22.bindsN (fun _ _ _ _ _ _ us hl => by
    match us, hl with
    | [_], _ => rfl)
  obtain ⟨d23, D23⟩ : ∃ fd, FunD K "are_within_limits" "are_within_limits" (defArgs s_are_within_limits) (defBody s_are_within_limits) (defScope s_are_within_limits) [] [] (He.fAd K ("are_within_limits", none)) fd := d.def_ 23
  have B23 : Binds K d23 ["many", "lists", "repeats"] [] := D23.bindsN (fun _ _ _ _ _ _ us hl => by
    match us, hl with
    | [_, _, _], _ => rfl)
  obtain ⟨d24, D24⟩ : ∃ fd, FunD K "is_name" "is_name" (defArgs s_is_name) (defBody s_is_name) (defScope s_is_name) [] [] (He.fAd K ("is_name", none)) fd := d.def_ 24
  have B24 : Binds K d24 ["word"] [] := D24.bindsN (fun _ _ _ _ _ _ us hl => by
    match us, hl with
    | [_], _ => rfl)
  obtain ⟨oc24, od24, dV24, kV24, doc24, pm24, an24, cdv24, ct24, osl24, e24, lk24, hc24, hD24, hK24⟩ := D24.ex
  obtain ⟨cc24, rfl⟩ := He.codeIn_ref hc24
  have ec24 : He.codeOf K ("is_name", none) = cc24 := He.codeOf_eq lk24 (by rw [e24])
  obtain ⟨d25, D25⟩ : ∃ fd, FunD K "is_value" "is_value" (defArgs s_is_value) (defBody s_is_value) (defScope s_is_value) [] [] (He.fAd K ("is_value", none)) fd := d.def_ 25
  have B25 : Binds K d25 ["value"] [] := D25.bindsN (fun _ _ _ _ _ _ us hl => by
    match us, hl with
    | [_], _ => rfl)
  obtain ⟨d26, D26⟩ : ∃ fd, FunD K "tokens" "tokens" (defArgs s_tokens) (defBody s_tokens) (defScope s_tokens) [] [] (He.fAd K ("tokens", none)) fd := d.def_ 26
  have B26 : Binds K d26 ["line", "number"] [] := D26.bindsN (fun _ _ _ _ _ _ us hl => by
    match us, hl with
    | [_, _], _ => rfl)
  obtain ⟨d27, D27⟩ : ∃ fd, FunD K "_token" "_token" (defArgs s_token) (defBody s_token) (defScope s_token) [] [] (He.fAd K ("_token", none)) fd := d.def_ 27
  have B27 : Binds K d27 ["line", "at", "number"] [] := D27.bindsN (fun _ _ _ _ _ _ us hl => by
    match us, hl with
    | [_, _, _], _ => rfl)
  obtain ⟨d28, D28⟩ : ∃ fd, FunD K "_row" "_row" (defArgs s_row) (defBody s_row) (defScope s_row) [] [] (He.fAd K ("_row", none)) fd := d.def_ 28
  have B28 : Binds K d28 ["line", "at", "characters"] [] := D28.bindsN (fun _ _ _ _ _ _ us hl => by
    match us, hl with
    | [_, _, _], _ => rfl)
  obtain ⟨d29, D29⟩ : ∃ fd, FunD K "_is_number" "_is_number" (defArgs s_is_number) (defBody s_is_number) (defScope s_is_number) [] [] (He.fAd K ("_is_number", none)) fd := d.def_ 29
  have B29 : Binds K d29 ["digits"] [] := D29.bindsN (fun _ _ _ _ _ _ us hl => by
    match us, hl with
    | [_], _ => rfl)
  obtain ⟨d30, D30⟩ : ∃ fd, FunD K "__init__" "Line.__init__" (defArgs s_Line___init__) (defBody s_Line___init__) (defScope s_Line___init__) [] [] (He.fAd K ("Line", some "__init__")) fd := d.def_ 30
  have B30 : Binds K d30 ["self", "text", "number", "cells", "variables", "in_block"] [] := D30.bindsN (fun _ _ _ _ _ _ us hl => by
    match us, hl with
    | [_, _, _, _, _, _], _ => rfl)
  obtain ⟨d31, D31⟩ : ∃ fd, FunD K "is_over" "Line.is_over" (defArgs s_Line_is_over) (defBody s_Line_is_over) (defScope s_Line_is_over) [] [] (He.fAd K ("Line", some "is_over")) fd := d.def_ 31
  have B31 : Binds K d31 ["self"] [] := D31.bindsN (fun _ _ _ _ _ _ us hl => by
    match us, hl with
    | [_], _ => rfl)
  obtain ⟨d32, D32⟩ : ∃ fd, FunD K "text" "Line.text" (defArgs s_Line_text) (defBody s_Line_text) (defScope s_Line_text) [.int 0] [] (He.fAd K ("Line", some "text")) fd := d.def_ 32
  obtain ⟨d33, D33⟩ : ∃ fd, FunD K "is_number" "Line.is_number" (defArgs s_Line_is_number) (defBody s_Line_is_number) (defScope s_Line_is_number) [.int 0] [] (He.fAd K ("Line", some "is_number")) fd := d.def_ 33
  obtain ⟨d34, D34⟩ : ∃ fd, FunD K "skip" "Line.skip" (defArgs s_Line_skip) (defBody s_Line_skip) (defScope s_Line_skip) [] [] (He.fAd K ("Line", some "skip")) fd := d.def_ 34
  have B34 : Binds K d34 ["self"] [] := D34.bindsN (fun _ _ _ _ _ _ us hl => by
    match us, hl with
    | [_], _ => rfl)
  obtain ⟨d35, D35⟩ : ∃ fd, FunD K "take" "Line.take" (defArgs s_Line_take) (defBody s_Line_take) (defScope s_Line_take) [] [] (He.fAd K ("Line", some "take")) fd := d.def_ 35
  have B35 : Binds K d35 ["self", "text"] [] := D35.bindsN (fun _ _ _ _ _ _ us hl => by
    match us, hl with
    | [_, _], _ => rfl)
  obtain ⟨d36, D36⟩ : ∃ fd, FunD K "finish" "Line.finish" (defArgs s_Line_finish) (defBody s_Line_finish) (defScope s_Line_finish) [] [] (He.fAd K ("Line", some "finish")) fd := d.def_ 36
  have B36 : Binds K d36 ["self"] [] := D36.bindsN (fun _ _ _ _ _ _ us hl => by
    match us, hl with
    | [_], _ => rfl)
  obtain ⟨d37, D37⟩ : ∃ fd, FunD K "begin_part" "Line.begin_part" (defArgs s_Line_begin_part) (defBody s_Line_begin_part) (defScope s_Line_begin_part) [] [] (He.fAd K ("Line", some "begin_part")) fd := d.def_ 37
  have B37 : Binds K d37 ["self"] [] := D37.bindsN (fun _ _ _ _ _ _ us hl => by
    match us, hl with
    | [_], _ => rfl)
  obtain ⟨d38, D38⟩ : ∃ fd, FunD K "end_part" "Line.end_part" (defArgs s_Line_end_part) (defBody s_Line_end_part) (defScope s_Line_end_part) [] [] (He.fAd K ("Line", some "end_part")) fd := d.def_ 38
  have B38 : Binds K d38 ["self"] [] := D38.bindsN (fun _ _ _ _ _ _ us hl => by
    match us, hl with
    | [_], _ => rfl)
  obtain ⟨d39, D39⟩ : ∃ fd, FunD K "take_number" "Line.take_number" (defArgs s_Line_take_number) (defBody s_Line_take_number) (defScope s_Line_take_number) [] [] (He.fAd K ("Line", some "take_number")) fd := d.def_ 39
  have B39 : Binds K d39 ["self"] [] := D39.bindsN (fun _ _ _ _ _ _ us hl => by
    match us, hl with
    | [_], _ => rfl)
  obtain ⟨d40, D40⟩ : ∃ fd, FunD K "take_integer" "Line.take_integer" (defArgs s_Line_take_integer) (defBody s_Line_take_integer) (defScope s_Line_take_integer) [] [] (He.fAd K ("Line", some "take_integer")) fd := d.def_ 40
  have B40 : Binds K d40 ["self"] [] := D40.bindsN (fun _ _ _ _ _ _ us hl => by
    match us, hl with
    | [_], _ => rfl)
  obtain ⟨d41, D41⟩ : ∃ fd, FunD K "near_name" "Line.near_name" (defArgs s_Line_near_name) (defBody s_Line_near_name) (defScope s_Line_near_name) [] [] (He.fAd K ("Line", some "near_name")) fd := d.def_ 41
  have B41 : Binds K d41 ["self"] [] := D41.bindsN (fun _ _ _ _ _ _ us hl => by
    match us, hl with
    | [_], _ => rfl)
  obtain ⟨d42, D42⟩ : ∃ fd, FunD K "take_new_name" "Line.take_new_name" (defArgs s_Line_take_new_name) (defBody s_Line_take_new_name) (defScope s_Line_take_new_name) [] [] (He.fAd K ("Line", some "take_new_name")) fd := d.def_ 42
  have B42 : Binds K d42 ["self", "taken"] [] := D42.bindsN (fun _ _ _ _ _ _ us hl => by
    match us, hl with
    | [_, _], _ => rfl)
  obtain ⟨d43, D43⟩ : ∃ fd, FunD K "near_known_name" "Line.near_known_name" (defArgs s_Line_near_known_name) (defBody s_Line_near_known_name) (defScope s_Line_near_known_name) [] [] (He.fAd K ("Line", some "near_known_name")) fd := d.def_ 43
  have B43 : Binds K d43 ["self"] [] := D43.bindsN (fun _ _ _ _ _ _ us hl => by
    match us, hl with
    | [_], _ => rfl)
  obtain ⟨d44, D44⟩ : ∃ fd, FunD K "__init__" "Thread.__init__" (defArgs s_Thread___init__) (defBody s_Thread___init__) (defScope s_Thread___init__) [] [] (He.fAd K ("Thread", some "__init__")) fd := d.def_ 44
  have B44 : Binds K d44 ["self", "name", "variables", "body"] [] := D44.bindsN (fun _ _ _ _ _ _ us hl => by
    match us, hl with
    | [_, _, _, _], _ => rfl)
  obtain ⟨d45, D45⟩ : ∃ fd, FunD K "__init__" "Program.__init__" (defArgs s_Program___init__) (defBody s_Program___init__) (defScope s_Program___init__) [] [] (He.fAd K ("Program", some "__init__")) fd := d.def_ 45
  have B45 : Binds K d45 ["self", "cells", "threads"] [] := D45.bindsN (fun _ _ _ _ _ _ us hl => by
    match us, hl with
    | [_, _, _], _ => rfl)
  obtain ⟨d46, D46⟩ : ∃ fd, FunD K "read_program" "read_program" (defArgs s_read_program) (defBody s_read_program) (defScope s_read_program) [] [] (He.fAd K ("read_program", none)) fd := d.def_ 46
  have B46 : Binds K d46 ["text"] [] := D46.bindsN (fun _ _ _ _ _ _ us hl => by
    match us, hl with
    | [_], _ => rfl)
  obtain ⟨d47, D47⟩ : ∃ fd, FunD K "__init__" "OpenList.__init__" (defArgs s_OpenList___init__) (defBody s_OpenList___init__) (defScope s_OpenList___init__) [.non, .non] [] (He.fAd K ("OpenList", some "__init__")) fd := d.def_ 47
  obtain ⟨d48, D48⟩ : ∃ fd, FunD K "__init__" "Reader.__init__" (defArgs s_Reader___init__) (defBody s_Reader___init__) (defScope s_Reader___init__) [] [] (He.fAd K ("Reader", some "__init__")) fd := d.def_ 48
  have B48 : Binds K d48 ["self"] [] := D48.bindsN (fun _ _ _ _ _ _ us hl => by
    match us, hl with
    | [_], _ => rfl)
  obtain ⟨d49, D49⟩ : ∃ fd, FunD K "read_line" "Reader.read_line" (defArgs s_Reader_read_line) (defBody s_Reader_read_line) (defScope s_Reader_read_line) [] [] (He.fAd K ("Reader", some "read_line")) fd := d.def_ 49
  have B49 : Binds K d49 ["self", "text", "number"] [] := D49.bindsN (fun _ _ _ _ _ _ us hl => by
    match us, hl with
    | [_, _, _], _ => rfl)
  obtain ⟨d50, D50⟩ : ∃ fd, FunD K "may_begin" "Reader.may_begin" (defArgs s_Reader_may_begin) (defBody s_Reader_may_begin) (defScope s_Reader_may_begin) [] [] (He.fAd K ("Reader", some "may_begin")) fd := d.def_ 50
  have B50 : Binds K d50 ["self", "word"] [] := D50.bindsN (fun _ _ _ _ _ _ us hl => by
    match us, hl with
    | [_, _], _ => rfl)
  obtain ⟨d51, D51⟩ : ∃ fd, FunD K "declare_cell" "Reader.declare_cell" (defArgs s_Reader_declare_cell) (defBody s_Reader_declare_cell) (defScope s_Reader_declare_cell) [] [] (He.fAd K ("Reader", some "declare_cell")) fd := d.def_ 51
  have B51 : Binds K d51 ["self", "line", "word"] [] := D51.bindsN (fun _ _ _ _ _ _ us hl => by
    match us, hl with
    | [_, _, _], _ => rfl)
  obtain ⟨d52, D52⟩ : ∃ fd, FunD K "begin_thread" "Reader.begin_thread" (defArgs s_Reader_begin_thread) (defBody s_Reader_begin_thread) (defScope s_Reader_begin_thread) [] [] (He.fAd K ("Reader", some "begin_thread")) fd := d.def_ 52
  have B52 : Binds K d52 ["self", "line"] [] := D52.bindsN (fun _ _ _ _ _ _ us hl => by
    match us, hl with
    | [_, _], _ => rfl)
  obtain ⟨d53, D53⟩ : ∃ fd, FunD K "declare_local" "Reader.declare_local" (defArgs s_Reader_declare_local) (defBody s_Reader_declare_local) (defScope s_Reader_declare_local) [] [] (He.fAd K ("Reader", some "declare_local")) fd := d.def_ 53
  have B53 : Binds K d53 ["self", "line"] [] := D53.bindsN (fun _ _ _ _ _ _ us hl => by
    match us, hl with
    | [_, _], _ => rfl)
  obtain ⟨d54, D54⟩ : ∃ fd, FunD K "end_list" "Reader.end_list" (defArgs s_Reader_end_list) (defBody s_Reader_end_list) (defScope s_Reader_end_list) [] [] (He.fAd K ("Reader", some "end_list")) fd := d.def_ 54
  have B54 : Binds K d54 ["self", "line"] [] := D54.bindsN (fun _ _ _ _ _ _ us hl => by
    match us, hl with
    | [_, _], _ => rfl)
  obtain ⟨d55, D55⟩ : ∃ fd, FunD K "add_statements" "Reader.add_statements" (defArgs s_Reader_add_statements) (defBody s_Reader_add_statements) (defScope s_Reader_add_statements) [] [] (He.fAd K ("Reader", some "add_statements")) fd := d.def_ 55
  have B55 : Binds K d55 ["self", "line", "word"] [] := D55.bindsN (fun _ _ _ _ _ _ us hl => by
    match us, hl with
    | [_, _, _], _ => rfl)
  obtain ⟨d56, D56⟩ : ∃ fd, FunD K "begin_list" "Reader.begin_list" (defArgs s_Reader_begin_list) (defBody s_Reader_begin_list) (defScope s_Reader_begin_list) [] [] (He.fAd K ("Reader", some "begin_list")) fd := d.def_ 56
  have B56 : Binds K d56 ["self", "statement"] [] := D56.bindsN (fun _ _ _ _ _ _ us hl => by
    match us, hl with
    | [_, _], _ => rfl)
  obtain ⟨d57, D57⟩ : ∃ fd, FunD K "_law_draws" "_law_draws" (defArgs s_law_draws) (defBody s_law_draws) (defScope s_law_draws) [] [] (He.fAd K ("_law_draws", none)) fd := d.def_ 57
  have B57 : Binds K d57 ["script"] [] := D57.bindsN (fun _ _ _ _ _ _ us hl => by
    match us, hl with
    | [_], _ => rfl)
  obtain ⟨d58, D58⟩ : ∃ fd, FunD K "_law_take" "_law_take" (defArgs s_law_take) (defBody s_law_take) (defScope s_law_take) [] [] (He.fAd K ("_law_take", none)) fd := d.def_ 58
  have B58 : Binds K d58 ["draws", "bound"] [] := D58.bindsN (fun _ _ _ _ _ _ us hl => by
    match us, hl with
    | [_, _], _ => rfl)
  obtain ⟨d59, D59⟩ : ∃ fd, FunD K "_law_same" "_law_same" (defArgs s_law_same) (defBody s_law_same) (defScope s_law_same) [] [] (He.fAd K ("_law_same", none)) fd := d.def_ 59
  have B59 : Binds K d59 ["actual", "due"] [] := D59.bindsN (fun _ _ _ _ _ _ us hl => by
    match us, hl with
    | [_, _], _ => rfl)
  obtain ⟨d60, D60⟩ : ∃ fd, FunD K "_law_keys" "_law_keys" (defArgs s_law_keys) (defBody s_law_keys) (defScope s_law_keys) [] [] (He.fAd K ("_law_keys", none)) fd := d.def_ 60
  have B60 : Binds K d60 [] [] := D60.bindsN (fun _ _ _ _ _ _ us hl => by
    match us, hl with
    | [], _ => rfl)
  obtain ⟨d61, D61⟩ : ∃ fd, FunD K "_law_names" "_law_names" (defArgs s_law_names) (defBody s_law_names) (defScope s_law_names) [] [] (He.fAd K ("_law_names", none)) fd := d.def_ 61
  have B61 : Binds K d61 ["draws", "many"] [] := D61.bindsN (fun _ _ _ _ _ _ us hl => by
    match us, hl with
    | [_, _], _ => rfl)
  obtain ⟨d62, D62⟩ : ∃ fd, FunD K "_law_number" "_law_number" (defArgs s_law_number) (defBody s_law_number) (defScope s_law_number) [] [] (He.fAd K ("_law_number", none)) fd := d.def_ 62
  have B62 : Binds K d62 ["draws"] [] := D62.bindsN (fun _ _ _ _ _ _ us hl => by
    match us, hl with
    | [_], _ => rfl)
  obtain ⟨d63, D63⟩ : ∃ fd, FunD K "_law_exp" "_law_exp" (defArgs s_law_exp) (defBody s_law_exp) (defScope s_law_exp) [] [] (He.fAd K ("_law_exp", none)) fd := d.def_ 63
  have B63 : Binds K d63 ["draws", "variables", "cells", "depth"] [] := D63.bindsN (fun _ _ _ _ _ _ us hl => by
    match us, hl with
    | [_, _, _, _], _ => rfl)
  obtain ⟨d64, D64⟩ : ∃ fd, FunD K "_law_sign" "_law_sign" (defArgs s_law_sign) (defBody s_law_sign) (defScope s_law_sign) [] [] (He.fAd K ("_law_sign", none)) fd := d.def_ 64
  have B64 : Binds K d64 ["word"] [] := D64.bindsN (fun _ _ _ _ _ _ us hl => by
    match us, hl with
    | [_], _ => rfl)
  obtain ⟨d65, D65⟩ : ∃ fd, FunD K "_law_part" "_law_part" (defArgs s_law_part) (defBody s_law_part) (defScope s_law_part) [] [] (He.fAd K ("_law_part", none)) fd := d.def_ 65
  have B65 : Binds K d65 ["exp"] [] := D65.bindsN (fun _ _ _ _ _ _ us hl => by
    match us, hl with
    | [_], _ => rfl)
  obtain ⟨d66, D66⟩ : ∃ fd, FunD K "_law_index" "_law_index" (defArgs s_law_index) (defBody s_law_index) (defScope s_law_index) [] [] (He.fAd K ("_law_index", none)) fd := d.def_ 66
  have B66 : Binds K d66 ["exp"] [] := D66.bindsN (fun _ _ _ _ _ _ us hl => by
    match us, hl with
    | [_], _ => rfl)
  obtain ⟨d67, D67⟩ : ∃ fd, FunD K "_law_written" "_law_written" (defArgs s_law_written) (defBody s_law_written) (defScope s_law_written) [] [] (He.fAd K ("_law_written", none)) fd := d.def_ 67
  have B67 : Binds K d67 ["exp"] [] := D67.bindsN (fun _ _ _ _ _ _ us hl => by
    match us, hl with
    | [_], _ => rfl)
  obtain ⟨d68, D68⟩ : ∃ fd, FunD K "_law_boxed" "_law_boxed" (defArgs s_law_boxed) (defBody s_law_boxed) (defScope s_law_boxed) [] [] (He.fAd K ("_law_boxed", none)) fd := d.def_ 68
  have B68 : Binds K d68 ["draws", "exp"] [] := D68.bindsN (fun _ _ _ _ _ _ us hl => by
    match us, hl with
    | [_, _], _ => rfl)
  obtain ⟨d69, D69⟩ : ∃ fd, FunD K "_law_loose" "_law_loose" (defArgs s_law_loose) (defBody s_law_loose) (defScope s_law_loose) [] [] (He.fAd K ("_law_loose", none)) fd := d.def_ 69
  have B69 : Binds K d69 ["draws", "exp"] [] := D69.bindsN (fun _ _ _ _ _ _ us hl => by
    match us, hl with
    | [_, _], _ => rfl)
  obtain ⟨d70, D70⟩ : ∃ fd, FunD K "_law_read" "_law_read" (defArgs s_law_read) (defBody s_law_read) (defScope s_law_read) [] [] (He.fAd K ("_law_read", none)) fd := d.def_ 70
  have B70 : Binds K d70 ["text", "names", "variables"] [] := D70.bindsN (fun _ _ _ _ _ _ us hl => by
    match us, hl with
    | [_, _, _], _ => rfl)
  obtain ⟨d71, D71⟩ : ∃ fd, FunD K "law" "law" (defArgs s_law) (defBody s_law) (defScope s_law) [] [] (He.fAd K ("law", none)) fd := d.def_ 71
  have B71 : Binds K d71 ["script"] [] := D71.bindsN (fun _ _ _ _ _ _ us hl => by
    match us, hl with
    | [_], _ => rfl)
  obtain ⟨t_LETTERS, g_LETTERS⟩ := He.str_ok X G (d.fact 121 (f := .str "LETTERS" "abcdefghijklmnopqrstuvwxyz"))
  obtain ⟨t_DIGITS, g_DIGITS⟩ := He.str_ok X G (d.fact 122 (f := .str "DIGITS" "0123456789"))
  obtain ⟨t_LONGEST, g_LONGEST⟩ := He.int_ok X G (d.fact 123 (f := .int "LONGEST" 12))
  obtain ⟨t_MOST_DIGITS, g_MOST_DIGITS⟩ := He.int_ok X G (d.fact 124 (f := .int "MOST_DIGITS" 10))
  obtain ⟨t_LEAST, g_LEAST⟩ := He.int_ok X G (d.fact 125 (f := .int "LEAST" (-1000000000)))
  obtain ⟨t_GREATEST, g_GREATEST⟩ := He.int_ok X G (d.fact 126 (f := .int "GREATEST" 1000000000))
  obtain ⟨t_MOST_THREADS, g_MOST_THREADS⟩ := He.int_ok X G (d.fact 127 (f := .int "MOST_THREADS" 6))
  obtain ⟨t_MOST_CELLS, g_MOST_CELLS⟩ := He.int_ok X G (d.fact 128 (f := .int "MOST_CELLS" 24))
  obtain ⟨t_MOST_LOCALS, g_MOST_LOCALS⟩ := He.int_ok X G (d.fact 129 (f := .int "MOST_LOCALS" 10))
  obtain ⟨t_MOST_STATEMENTS, g_MOST_STATEMENTS⟩ := He.int_ok X G (d.fact 130 (f := .int "MOST_STATEMENTS" 80))
  obtain ⟨t_MOST_LISTS, g_MOST_LISTS⟩ := He.int_ok X G (d.fact 131 (f := .int "MOST_LISTS" 6))
  obtain ⟨t_MOST_REPEATS, g_MOST_REPEATS⟩ := He.int_ok X G (d.fact 132 (f := .int "MOST_REPEATS" 2))
  obtain ⟨t_MOST_OPEN, g_MOST_OPEN⟩ := He.int_ok X G (d.fact 133 (f := .int "MOST_OPEN" 20))
  obtain ⟨t_MOST_CHARACTERS, g_MOST_CHARACTERS⟩ := He.int_ok X G (d.fact 134 (f := .int "MOST_CHARACTERS" 20000))
  have m0 := c.more
  obtain ⟨M0, m1⟩ := Bool.and_eq_true_iff.mp m0
  obtain ⟨M1, m2⟩ := Bool.and_eq_true_iff.mp m1
  obtain ⟨M2, m3⟩ := Bool.and_eq_true_iff.mp m2
  obtain ⟨M3, m4⟩ := Bool.and_eq_true_iff.mp m3
  obtain ⟨M4, m5⟩ := Bool.and_eq_true_iff.mp m4
  have V_COMPARISONS := M4
  obtain ⟨M5, m6⟩ := Bool.and_eq_true_iff.mp m5
  have N_COMPARISONS_0 := M5
  obtain ⟨M6, m7⟩ := Bool.and_eq_true_iff.mp m6
  have N_COMPARISONS_1 := M6
  obtain ⟨M7, m8⟩ := Bool.and_eq_true_iff.mp m7
  have N_COMPARISONS_2 := M7
  obtain ⟨M8, m9⟩ := Bool.and_eq_true_iff.mp m8
  have N_COMPARISONS_3 := M8
  obtain ⟨M9, m10⟩ := Bool.and_eq_true_iff.mp m9
  have N_COMPARISONS_4 := M9
  obtain ⟨M10, m11⟩ := Bool.and_eq_true_iff.mp m10
  have N_COMPARISONS_5 := M10
  obtain ⟨M11, m12⟩ := Bool.and_eq_true_iff.mp m11
  have N_COMPARISONS_6 := M11
  obtain ⟨M12, m13⟩ := Bool.and_eq_true_iff.mp m12
  have N_COMPARISONS_7 := M12
  obtain ⟨M13, m14⟩ := Bool.and_eq_true_iff.mp m13
  have N_COMPARISONS_8 := M13
  obtain ⟨M14, m15⟩ := Bool.and_eq_true_iff.mp m14
  have V_SUMS := M14
  obtain ⟨M15, m16⟩ := Bool.and_eq_true_iff.mp m15
  have N_SUMS_0 := M15
  obtain ⟨M16, m17⟩ := Bool.and_eq_true_iff.mp m16
  have N_SUMS_1 := M16
  obtain ⟨M17, m18⟩ := Bool.and_eq_true_iff.mp m17
  have N_SUMS_2 := M17
  obtain ⟨M18, m19⟩ := Bool.and_eq_true_iff.mp m18
  have N_SUMS_3 := M18
  obtain ⟨M19, m20⟩ := Bool.and_eq_true_iff.mp m19
  have N_SUMS_4 := M19
  obtain ⟨M20, m21⟩ := Bool.and_eq_true_iff.mp m20
  have N_SUMS_5 := M20
  obtain ⟨M21, m22⟩ := Bool.and_eq_true_iff.mp m21
  have N_SUMS_6 := M21
  obtain ⟨M22, m23⟩ := Bool.and_eq_true_iff.mp m22
  have N_SUMS_7 := M22
  obtain ⟨M23, m24⟩ := Bool.and_eq_true_iff.mp m23
  have N_SUMS_8 := M23
  obtain ⟨M24, m25⟩ := Bool.and_eq_true_iff.mp m24
  have N_SUMS_9 := M24
  obtain ⟨M25, m26⟩ := Bool.and_eq_true_iff.mp m25
  have N_SUMS_10 := M25
  obtain ⟨M26, m27⟩ := Bool.and_eq_true_iff.mp m26
  have N_SUMS_11 := M26
  obtain ⟨M27, m28⟩ := Bool.and_eq_true_iff.mp m27
  have V_PRODUCTS := M27
  obtain ⟨M28, m29⟩ := Bool.and_eq_true_iff.mp m28
  have N_PRODUCTS_0 := M28
  obtain ⟨M29, m30⟩ := Bool.and_eq_true_iff.mp m29
  have N_PRODUCTS_1 := M29
  obtain ⟨M30, m31⟩ := Bool.and_eq_true_iff.mp m30
  have N_PRODUCTS_2 := M30
  obtain ⟨M31, m32⟩ := Bool.and_eq_true_iff.mp m31
  have N_PRODUCTS_3 := M31
  obtain ⟨M32, m33⟩ := Bool.and_eq_true_iff.mp m32
  have N_PRODUCTS_4 := M32
  obtain ⟨M33, m34⟩ := Bool.and_eq_true_iff.mp m33
  have N_PRODUCTS_5 := M33
  obtain ⟨M34, m35⟩ := Bool.and_eq_true_iff.mp m34
  have N_PRODUCTS_6 := M34
  obtain ⟨M35, m36⟩ := Bool.and_eq_true_iff.mp m35
  have N_PRODUCTS_7 := M35
  obtain ⟨M36, m37⟩ := Bool.and_eq_true_iff.mp m36
  have N_PRODUCTS_8 := M36
  obtain ⟨M37, m38⟩ := Bool.and_eq_true_iff.mp m37
  have N_PRODUCTS_9 := M37
  obtain ⟨M38, m39⟩ := Bool.and_eq_true_iff.mp m38
  have N_PRODUCTS_10 := M38
  obtain ⟨M39, m40⟩ := Bool.and_eq_true_iff.mp m39
  have V_THREAD_FORMS := M39
  obtain ⟨M40, m41⟩ := Bool.and_eq_true_iff.mp m40
  have V_BLOCK_FORMS := M40
  obtain ⟨M41, m42⟩ := Bool.and_eq_true_iff.mp m41
  have V_OPERATORS := M41
  obtain ⟨A, eA⟩ : ∃ A : Adr, A = { a_parts_of := He.fAd K ("parts_of", none), d_parts_of := d0, a_lists_of := He.fAd K ("lists_of", none), d_lists_of := d1, a_write_expression := He.fAd K ("write_expression", none), d_write_expression := d2, a__pieces := He.fAd K ("_pieces", none), d__pieces := d3, a__part := He.fAd K ("_part", none), d__part := d4, a_read_expression := He.fAd K ("read_expression", none), d_read_expression := d5, a_read_index := He.fAd K ("read_index", none), d_read_index := d6, a__read_and := He.fAd K ("_read_and", none), d__read_and := d7, a__read_not := He.fAd K ("_read_not", none), d__read_not := d8, a__read_comparison := He.fAd K ("_read_comparison", none), d__read_comparison := d9, a__read_sum := He.fAd K ("_read_sum", none), d__read_sum := d10, a__read_product := He.fAd K ("_read_product", none), d__read_product := d11, a__read_sign := He.fAd K ("_read_sign", none), d__read_sign := d12, a__read_atom := He.fAd K ("_read_atom", none), d__read_atom := d13, a__read_parentheses := He.fAd K ("_read_parentheses", none), d__read_parentheses := d14, a_read_cell := He.fAd K ("read_cell", none), d_read_cell := d15, a__read_plain_cell := He.fAd K ("_read_plain_cell", none), d__read_plain_cell := d16, a_read_statements := He.fAd K ("read_statements", none), d_read_statements := d17, a_may_stand := He.fAd K ("may_stand", none), d_may_stand := d18, a_may_declare := He.fAd K ("may_declare", none), d_may_declare := d19, a__read_later := He.fAd K ("_read_later", none), d__read_later := d20, a__read_atomic := He.fAd K ("_read_atomic", none), d__read_atomic := d21, a_measure := He.fAd K ("measure", none), d_measure := d22, a_are_within_limits := He.fAd K ("are_within_limits", none), d_are_within_limits := d23, a_is_name := He.fAd K ("is_name", none), d_is_name := d24, c_is_name := (He.cT K ("is_name", none)).1, t_is_name := (He.cT K ("is_name", none)).2, a_is_value := He.fAd K ("is_value", none), d_is_value := d25, a_tokens := He.fAd K ("tokens", none), d_tokens := d26, a__token := He.fAd K ("_token", none), d__token := d27, a__row := He.fAd K ("_row", none), d__row := d28, a__is_number := He.fAd K ("_is_number", none), d__is_number := d29, a_Line___init__ := He.fAd K ("Line", some "__init__"), d_Line___init__ := d30, a_Line_is_over := He.fAd K ("Line", some "is_over"), d_Line_is_over := d31, a_Line_text := He.fAd K ("Line", some "text"), d_Line_text := d32, c_Line_text := (He.cT K ("Line", some "text")).1, t_Line_text := (He.cT K ("Line", some "text")).2, a_Line_is_number := He.fAd K ("Line", some "is_number"), d_Line_is_number := d33, c_Line_is_number := (He.cT K ("Line", some "is_number")).1, t_Line_is_number := (He.cT K ("Line", some "is_number")).2, a_Line_skip := He.fAd K ("Line", some "skip"), d_Line_skip := d34, a_Line_take := He.fAd K ("Line", some "take"), d_Line_take := d35, a_Line_finish := He.fAd K ("Line", some "finish"), d_Line_finish := d36, a_Line_begin_part := He.fAd K ("Line", some "begin_part"), d_Line_begin_part := d37, a_Line_end_part := He.fAd K ("Line", some "end_part"), d_Line_end_part := d38, a_Line_take_number := He.fAd K ("Line", some "take_number"), d_Line_take_number := d39, a_Line_take_integer := He.fAd K ("Line", some "take_integer"), d_Line_take_integer := d40, a_Line_near_name := He.fAd K ("Line", some "near_name"), d_Line_near_name := d41, a_Line_take_new_name := He.fAd K ("Line", some "take_new_name"), d_Line_take_new_name := d42, a_Line_near_known_name := He.fAd K ("Line", some "near_known_name"), d_Line_near_known_name := d43, a_Thread___init__ := He.fAd K ("Thread", some "__init__"), d_Thread___init__ := d44, a_Program___init__ := He.fAd K ("Program", some "__init__"), d_Program___init__ := d45, a_read_program := He.fAd K ("read_program", none), d_read_program := d46, a_OpenList___init__ := He.fAd K ("OpenList", some "__init__"), d_OpenList___init__ := d47, a_Reader___init__ := He.fAd K ("Reader", some "__init__"), d_Reader___init__ := d48, a_Reader_read_line := He.fAd K ("Reader", some "read_line"), d_Reader_read_line := d49, a_Reader_may_begin := He.fAd K ("Reader", some "may_begin"), d_Reader_may_begin := d50, a_Reader_declare_cell := He.fAd K ("Reader", some "declare_cell"), d_Reader_declare_cell := d51, a_Reader_begin_thread := He.fAd K ("Reader", some "begin_thread"), d_Reader_begin_thread := d52, a_Reader_declare_local := He.fAd K ("Reader", some "declare_local"), d_Reader_declare_local := d53, a_Reader_end_list := He.fAd K ("Reader", some "end_list"), d_Reader_end_list := d54, a_Reader_add_statements := He.fAd K ("Reader", some "add_statements"), d_Reader_add_statements := d55, a_Reader_begin_list := He.fAd K ("Reader", some "begin_list"), d_Reader_begin_list := d56, a__law_draws := He.fAd K ("_law_draws", none), d__law_draws := d57, a__law_take := He.fAd K ("_law_take", none), d__law_take := d58, a__law_same := He.fAd K ("_law_same", none), d__law_same := d59, a__law_keys := He.fAd K ("_law_keys", none), d__law_keys := d60, a__law_names := He.fAd K ("_law_names", none), d__law_names := d61, a__law_number := He.fAd K ("_law_number", none), d__law_number := d62, a__law_exp := He.fAd K ("_law_exp", none), d__law_exp := d63, a__law_sign := He.fAd K ("_law_sign", none), d__law_sign := d64, a__law_part := He.fAd K ("_law_part", none), d__law_part := d65, a__law_index := He.fAd K ("_law_index", none), d__law_index := d66, a__law_written := He.fAd K ("_law_written", none), d__law_written := d67, a__law_boxed := He.fAd K ("_law_boxed", none), d__law_boxed := d68, a__law_loose := He.fAd K ("_law_loose", none), d__law_loose := d69, a__law_read := He.fAd K ("_law_read", none), d__law_read := d70, a_law := He.fAd K ("law", none), d_law := d71, t_LETTERS := t_LETTERS, t_DIGITS := t_DIGITS, t_LONGEST := t_LONGEST, t_MOST_DIGITS := t_MOST_DIGITS, t_LEAST := t_LEAST, t_GREATEST := t_GREATEST, t_MOST_THREADS := t_MOST_THREADS, t_MOST_CELLS := t_MOST_CELLS, t_MOST_LOCALS := t_MOST_LOCALS, t_MOST_STATEMENTS := t_MOST_STATEMENTS, t_MOST_LISTS := t_MOST_LISTS, t_MOST_REPEATS := t_MOST_REPEATS, t_MOST_OPEN := t_MOST_OPEN, t_MOST_CHARACTERS := t_MOST_CHARACTERS, a_SIGNS := He.ga K "SIGNS", a_LONG_SIGNS := He.ga K "LONG_SIGNS", a_KEY_WORDS := He.ga K "KEY_WORDS", a_COMPARISONS := He.ga K "COMPARISONS", a_SUMS := He.ga K "SUMS", a_PRODUCTS := He.ga K "PRODUCTS", a_THREAD_FORMS := He.ga K "THREAD_FORMS", a_BLOCK_FORMS := He.ga K "BLOCK_FORMS", a_LEAVES := He.ga K "LEAVES", a_OPERATORS := He.ga K "OPERATORS", a_Line := He.ga K "Line", a_Thread := He.ga K "Thread", a_Program := He.ga K "Program", a_OpenList := He.ga K "OpenList", a_Reader := He.ga K "Reader" } := ⟨_, rfl⟩
  have T : Txt K mg A := by
    subst eA
    exact { b_parts_of := (B0), F_parts_of := (fun_of D0), g_parts_of := (He.glo_ok X G (d.fact 0 (f := .glo "parts_of"))), b_lists_of := (B1), F_lists_of := (fun_of D1), g_lists_of := (He.glo_ok X G (d.fact 1 (f := .glo "lists_of"))), b_write_expression := (B2), F_write_expression := (fun_of D2), g_write_expression := (He.glo_ok X G (d.fact 2 (f := .glo "write_expression"))), b__pieces := (B3), F__pieces := (fun_of D3), g__pieces := (He.glo_ok X G (d.fact 3 (f := .glo "_pieces"))), b__part := (B4), F__part := (fun_of D4), g__part := (He.glo_ok X G (d.fact 4 (f := .glo "_part"))), b_read_expression := (B5), F_read_expression := (fun_of D5), g_read_expression := (He.glo_ok X G (d.fact 5 (f := .glo "read_expression"))), b_read_index := (B6), F_read_index := (fun_of D6), g_read_index := (He.glo_ok X G (d.fact 6 (f := .glo "read_index"))), b__read_and := (B7), F__read_and := (fun_of D7), g__read_and := (He.glo_ok X G (d.fact 7 (f := .glo "_read_and"))), b__read_not := (B8), F__read_not := (fun_of D8), g__read_not := (He.glo_ok X G (d.fact 8 (f := .glo "_read_not"))), b__read_comparison := (B9), F__read_comparison := (fun_of D9), g__read_comparison := (He.glo_ok X G (d.fact 9 (f := .glo "_read_comparison"))), b__read_sum := (B10), F__read_sum := (fun_of D10), g__read_sum := (He.glo_ok X G (d.fact 10 (f := .glo "_read_sum"))), b__read_product := (B11), F__read_product := (fun_of D11), g__read_product := (He.glo_ok X G (d.fact 11 (f := .glo "_read_product"))), b__read_sign := (B12), F__read_sign := (fun_of D12), g__read_sign := (He.glo_ok X G (d.fact 12 (f := .glo "_read_sign"))), b__read_atom := (B13), F__read_atom := (fun_of D13), g__read_atom := (He.glo_ok X G (d.fact 13 (f := .glo "_read_atom"))), b__read_parentheses := (B14), F__read_parentheses := (fun_of D14), g__read_parentheses := (He.glo_ok X G (d.fact 14 (f := .glo "_read_parentheses"))), b_read_cell := (B15), F_read_cell := (fun_of D15), g_read_cell := (He.glo_ok X G (d.fact 15 (f := .glo "read_cell"))), b__read_plain_cell := (B16), F__read_plain_cell := (fun_of D16), g__read_plain_cell := (He.glo_ok X G (d.fact 16 (f := .glo "_read_plain_cell"))), b_read_statements := (B17), F_read_statements := (fun_of D17), g_read_statements := (He.glo_ok X G (d.fact 17 (f := .glo "read_statements"))), b_may_stand := (B18), F_may_stand := (fun_of D18), g_may_stand := (He.glo_ok X G (d.fact 18 (f := .glo "may_stand"))), b_may_declare := (B19), F_may_declare := (fun_of D19), g_may_declare := (He.glo_ok X G (d.fact 19 (f := .glo "may_declare"))), b__read_later := (B20), F__read_later := (fun_of D20), g__read_later := (He.glo_ok X G (d.fact 20 (f := .glo "_read_later"))), b__read_atomic := (B21), F__read_atomic := (fun_of D21), g__read_atomic := (He.glo_ok X G (d.fact 21 (f := .glo "_read_atomic"))), b_measure := (B22), F_measure := (fun_of D22), g_measure := (He.glo_ok X G (d.fact 22 (f := .glo "measure"))), b_are_within_limits := (B23), F_are_within_limits := (fun_of D23), g_are_within_limits := (He.glo_ok X G (d.fact 23 (f := .glo "are_within_limits"))), b_is_name := (B24), L_is_name := (⟨oc24, od24, dV24, kV24, doc24, pm24, an24, ct24, osl24, by rw [show (He.cT K ("is_name", none)).1 = cc24 from ec24]; exact e24, lk24⟩), C_is_name := (by rw [show (He.cT K ("is_name", none)).1 = cc24 from ec24]; exact hc24), kp_is_name := (D24.kp), g_is_name := (He.glo_ok X G (d.fact 24 (f := .glo "is_name"))), b_is_value := (B25), F_is_value := (fun_of D25), g_is_value := (He.glo_ok X G (d.fact 25 (f := .glo "is_value"))), b_tokens := (B26), F_tokens := (fun_of D26), g_tokens := (He.glo_ok X G (d.fact 26 (f := .glo "tokens"))), b__token := (B27), F__token := (fun_of D27), g__token := (He.glo_ok X G (d.fact 27 (f := .glo "_token"))), b__row := (B28), F__row := (fun_of D28), g__row := (He.glo_ok X G (d.fact 28 (f := .glo "_row"))), b__is_number := (B29), F__is_number := (fun_of D29), g__is_number := (He.glo_ok X G (d.fact 29 (f := .glo "_is_number"))), b_Line___init__ := (B30), F_Line___init__ := (fun_of D30), b_Line_is_over := (B31), F_Line_is_over := (fun_of D31), K_Line_text := (D32), K_Line_is_number := (D33), b_Line_skip := (B34), F_Line_skip := (fun_of D34), b_Line_take := (B35), F_Line_take := (fun_of D35), b_Line_finish := (B36), F_Line_finish := (fun_of D36), b_Line_begin_part := (B37), F_Line_begin_part := (fun_of D37), b_Line_end_part := (B38), F_Line_end_part := (fun_of D38), b_Line_take_number := (B39), F_Line_take_number := (fun_of D39), b_Line_take_integer := (B40), F_Line_take_integer := (fun_of D40), b_Line_near_name := (B41), F_Line_near_name := (fun_of D41), b_Line_take_new_name := (B42), F_Line_take_new_name := (fun_of D42), b_Line_near_known_name := (B43), F_Line_near_known_name := (fun_of D43), b_Thread___init__ := (B44), F_Thread___init__ := (fun_of D44), b_Program___init__ := (B45), F_Program___init__ := (fun_of D45), b_read_program := (B46), F_read_program := (fun_of D46), g_read_program := (He.glo_ok X G (d.fact 46 (f := .glo "read_program"))), K_OpenList___init__ := (D47), b_Reader___init__ := (B48), F_Reader___init__ := (fun_of D48), b_Reader_read_line := (B49), F_Reader_read_line := (fun_of D49), b_Reader_may_begin := (B50), F_Reader_may_begin := (fun_of D50), b_Reader_declare_cell := (B51), F_Reader_declare_cell := (fun_of D51), b_Reader_begin_thread := (B52), F_Reader_begin_thread := (fun_of D52), b_Reader_declare_local := (B53), F_Reader_declare_local := (fun_of D53), b_Reader_end_list := (B54), F_Reader_end_list := (fun_of D54), b_Reader_add_statements := (B55), F_Reader_add_statements := (fun_of D55), b_Reader_begin_list := (B56), F_Reader_begin_list := (fun_of D56), b__law_draws := (B57), F__law_draws := (fun_of D57), g__law_draws := (He.glo_ok X G (d.fact 57 (f := .glo "_law_draws"))), b__law_take := (B58), F__law_take := (fun_of D58), g__law_take := (He.glo_ok X G (d.fact 58 (f := .glo "_law_take"))), b__law_same := (B59), F__law_same := (fun_of D59), g__law_same := (He.glo_ok X G (d.fact 59 (f := .glo "_law_same"))), b__law_keys := (B60), F__law_keys := (fun_of D60), g__law_keys := (He.glo_ok X G (d.fact 60 (f := .glo "_law_keys"))), b__law_names := (B61), F__law_names := (fun_of D61), g__law_names := (He.glo_ok X G (d.fact 61 (f := .glo "_law_names"))), b__law_number := (B62), F__law_number := (fun_of D62), g__law_number := (He.glo_ok X G (d.fact 62 (f := .glo "_law_number"))), b__law_exp := (B63), F__law_exp := (fun_of D63), g__law_exp := (He.glo_ok X G (d.fact 63 (f := .glo "_law_exp"))), b__law_sign := (B64), F__law_sign := (fun_of D64), g__law_sign := (He.glo_ok X G (d.fact 64 (f := .glo "_law_sign"))), b__law_part := (B65), F__law_part := (fun_of D65), g__law_part := (He.glo_ok X G (d.fact 65 (f := .glo "_law_part"))), b__law_index := (B66), F__law_index := (fun_of D66), g__law_index := (He.glo_ok X G (d.fact 66 (f := .glo "_law_index"))), b__law_written := (B67), F__law_written := (fun_of D67), g__law_written := (He.glo_ok X G (d.fact 67 (f := .glo "_law_written"))), b__law_boxed := (B68), F__law_boxed := (fun_of D68), g__law_boxed := (He.glo_ok X G (d.fact 68 (f := .glo "_law_boxed"))), b__law_loose := (B69), F__law_loose := (fun_of D69), g__law_loose := (He.glo_ok X G (d.fact 69 (f := .glo "_law_loose"))), b__law_read := (B70), F__law_read := (fun_of D70), g__law_read := (He.glo_ok X G (d.fact 70 (f := .glo "_law_read"))), b_law := (B71), F_law := (fun_of D71), g_law := (He.glo_ok X G (d.fact 71 (f := .glo "law"))), n_len := (He.free_ok X G (d.fact 107 (f := .free "len"))), n_abs := (He.free_ok X G (d.fact 108 (f := .free "abs"))), n_int := (He.free_ok X G (d.fact 109 (f := .free "int"))), n_list := (He.free_ok X G (d.fact 110 (f := .free "list"))), n_reversed := (He.free_ok X G (d.fact 111 (f := .free "reversed"))), n_range := (He.free_ok X G (d.fact 112 (f := .free "range"))), n_isinstance := (He.free_ok X G (d.fact 113 (f := .free "isinstance"))), n_tuple := (He.free_ok X G (d.fact 114 (f := .free "tuple"))), n_str := (He.free_ok X G (d.fact 115 (f := .free "str"))), n_bool := (He.free_ok X G (d.fact 116 (f := .free "bool"))), n_max := (He.free_ok X G (d.fact 117 (f := .free "max"))), n_sum := (He.free_ok X G (d.fact 118 (f := .free "sum"))), n_enumerate := (He.free_ok X G (d.fact 119 (f := .free "enumerate"))), n_all := (He.free_ok X G (d.fact 120 (f := .free "all"))), g_LETTERS := (g_LETTERS), g_DIGITS := (g_DIGITS), g_LONGEST := (g_LONGEST), g_MOST_DIGITS := (g_MOST_DIGITS), g_LEAST := (g_LEAST), g_GREATEST := (g_GREATEST), g_MOST_THREADS := (g_MOST_THREADS), g_MOST_CELLS := (g_MOST_CELLS), g_MOST_LOCALS := (g_MOST_LOCALS), g_MOST_STATEMENTS := (g_MOST_STATEMENTS), g_MOST_LISTS := (g_MOST_LISTS), g_MOST_REPEATS := (g_MOST_REPEATS), g_MOST_OPEN := (g_MOST_OPEN), g_MOST_CHARACTERS := (g_MOST_CHARACTERS), z_LEAVES := (He.tupB_ok M0), z_SIGNS := (He.tupB_ok M1), z_LONG_SIGNS := (He.tupB_ok M2), z_KEY_WORDS := (He.tupB_ok M3), g_SIGNS := (He.glo_ok X G (d.fact 135 (f := .glo "SIGNS"))), g_LONG_SIGNS := (He.glo_ok X G (d.fact 136 (f := .glo "LONG_SIGNS"))), g_KEY_WORDS := (He.glo_ok X G (d.fact 137 (f := .glo "KEY_WORDS"))), g_COMPARISONS := (He.glo_ok X G (d.fact 138 (f := .glo "COMPARISONS"))), g_SUMS := (He.glo_ok X G (d.fact 139 (f := .glo "SUMS"))), g_PRODUCTS := (He.glo_ok X G (d.fact 140 (f := .glo "PRODUCTS"))), g_THREAD_FORMS := (He.glo_ok X G (d.fact 141 (f := .glo "THREAD_FORMS"))), g_BLOCK_FORMS := (He.glo_ok X G (d.fact 142 (f := .glo "BLOCK_FORMS"))), g_LEAVES := (He.glo_ok X G (d.fact 143 (f := .glo "LEAVES"))), g_OPERATORS := (He.glo_ok X G (d.fact 144 (f := .glo "OPERATORS"))), g_Line := (He.glo_ok X G (d.fact 72 (f := .glo "Line"))), cl_Line := (He.cls_ok (d.fact 73 (f := .cls "Line"))), no_Line_number := (He.noat_ok (d.fact 74 (f := .noat "Line" "number"))), no_Line_found := (He.noat_ok (d.fact 75 (f := .noat "Line" "found"))), no_Line_behind := (He.noat_ok (d.fact 76 (f := .noat "Line" "behind"))), no_Line_place := (He.noat_ok (d.fact 77 (f := .noat "Line" "place"))), no_Line_many_open := (He.noat_ok (d.fact 78 (f := .noat "Line" "many_open"))), no_Line_cells := (He.noat_ok (d.fact 79 (f := .noat "Line" "cells"))), no_Line_variables := (He.noat_ok (d.fact 80 (f := .noat "Line" "variables"))), no_Line_in_block := (He.noat_ok (d.fact 81 (f := .noat "Line" "in_block"))), mk_Line := (He.mkr_ok (d.fact 30 (f := .mkr "Line"))), m_Line_is_over := (He.meth_ok (d.fact 31 (f := .meth "Line" "is_over"))), m_Line_text := (He.meth_ok (d.fact 32 (f := .meth "Line" "text"))), m_Line_is_number := (He.meth_ok (d.fact 33 (f := .meth "Line" "is_number"))), m_Line_skip := (He.meth_ok (d.fact 34 (f := .meth "Line" "skip"))), m_Line_take := (He.meth_ok (d.fact 35 (f := .meth "Line" "take"))), m_Line_finish := (He.meth_ok (d.fact 36 (f := .meth "Line" "finish"))), m_Line_begin_part := (He.meth_ok (d.fact 37 (f := .meth "Line" "begin_part"))), m_Line_end_part := (He.meth_ok (d.fact 38 (f := .meth "Line" "end_part"))), m_Line_take_number := (He.meth_ok (d.fact 39 (f := .meth "Line" "take_number"))), m_Line_take_integer := (He.meth_ok (d.fact 40 (f := .meth "Line" "take_integer"))), m_Line_near_name := (He.meth_ok (d.fact 41 (f := .meth "Line" "near_name"))), m_Line_take_new_name := (He.meth_ok (d.fact 42 (f := .meth "Line" "take_new_name"))), m_Line_near_known_name := (He.meth_ok (d.fact 43 (f := .meth "Line" "near_known_name"))), g_Thread := (He.glo_ok X G (d.fact 82 (f := .glo "Thread"))), cl_Thread := (He.cls_ok (d.fact 83 (f := .cls "Thread"))), no_Thread_name := (He.noat_ok (d.fact 84 (f := .noat "Thread" "name"))), no_Thread_variables := (He.noat_ok (d.fact 85 (f := .noat "Thread" "variables"))), no_Thread_body := (He.noat_ok (d.fact 86 (f := .noat "Thread" "body"))), mk_Thread := (He.mkr_ok (d.fact 44 (f := .mkr "Thread"))), g_Program := (He.glo_ok X G (d.fact 87 (f := .glo "Program"))), cl_Program := (He.cls_ok (d.fact 88 (f := .cls "Program"))), no_Program_cells := (He.noat_ok (d.fact 89 (f := .noat "Program" "cells"))), no_Program_threads := (He.noat_ok (d.fact 90 (f := .noat "Program" "threads"))), mk_Program := (He.mkr_ok (d.fact 45 (f := .mkr "Program"))), g_OpenList := (He.glo_ok X G (d.fact 91 (f := .glo "OpenList"))), cl_OpenList := (He.cls_ok (d.fact 92 (f := .cls "OpenList"))), no_OpenList_head := (He.noat_ok (d.fact 93 (f := .noat "OpenList" "head"))), no_OpenList_rows := (He.noat_ok (d.fact 94 (f := .noat "OpenList" "rows"))), no_OpenList_in_block := (He.noat_ok (d.fact 95 (f := .noat "OpenList" "in_block"))), no_OpenList_turn := (He.noat_ok (d.fact 96 (f := .noat "OpenList" "turn"))), no_OpenList_other := (He.noat_ok (d.fact 97 (f := .noat "OpenList" "other"))), mk_OpenList := (He.mkr_ok (d.fact 47 (f := .mkr "OpenList"))), g_Reader := (He.glo_ok X G (d.fact 98 (f := .glo "Reader"))), cl_Reader := (He.cls_ok (d.fact 99 (f := .cls "Reader"))), no_Reader_cells := (He.noat_ok (d.fact 100 (f := .noat "Reader" "cells"))), no_Reader_declared := (He.noat_ok (d.fact 101 (f := .noat "Reader" "declared"))), no_Reader_threads := (He.noat_ok (d.fact 102 (f := .noat "Reader" "threads"))), no_Reader_name := (He.noat_ok (d.fact 103 (f := .noat "Reader" "name"))), no_Reader_variables := (He.noat_ok (d.fact 104 (f := .noat "Reader" "variables"))), no_Reader_statements := (He.noat_ok (d.fact 105 (f := .noat "Reader" "statements"))), no_Reader_lists := (He.noat_ok (d.fact 106 (f := .noat "Reader" "lists"))), mk_Reader := (He.mkr_ok (d.fact 48 (f := .mkr "Reader"))), m_Reader_read_line := (He.meth_ok (d.fact 49 (f := .meth "Reader" "read_line"))), m_Reader_may_begin := (He.meth_ok (d.fact 50 (f := .meth "Reader" "may_begin"))), m_Reader_declare_cell := (He.meth_ok (d.fact 51 (f := .meth "Reader" "declare_cell"))), m_Reader_begin_thread := (He.meth_ok (d.fact 52 (f := .meth "Reader" "begin_thread"))), m_Reader_declare_local := (He.meth_ok (d.fact 53 (f := .meth "Reader" "declare_local"))), m_Reader_end_list := (He.meth_ok (d.fact 54 (f := .meth "Reader" "end_list"))), m_Reader_add_statements := (He.meth_ok (d.fact 55 (f := .meth "Reader" "add_statements"))), m_Reader_begin_list := (He.meth_ok (d.fact 56 (f := .meth "Reader" "begin_list"))) }
  have ea : fa' = A.a_law := by
    have h1 := T.g_law
    rw [hfa] at h1
    cases h1
    rfl
  have el : A.d_law = d71 := by rw [eA]
  subst ea
  obtain ⟨e0_, n0_, kCOMPARISONS⟩ := c.t.tab 0
  obtain ⟨e1_, n1_, kSUMS⟩ := c.t.tab 1
  obtain ⟨e2_, n2_, kPRODUCTS⟩ := c.t.tab 2
  obtain ⟨e3_, n3_, kTHREAD_FORMS⟩ := c.t.tab 3
  obtain ⟨e4_, n4_, kBLOCK_FORMS⟩ := c.t.tab 4
  obtain ⟨e5_, n5_, kOPERATORS⟩ := c.t.tab 5
  have DT : DcT K w A := by
    subst eA
    refine ⟨?_, ?_, ?_, ?_, ?_, ?_⟩
    · intro z hz
      simp only [fol, List.mem_cons, List.not_mem_nil, or_false] at hz
      rcases hz with rfl | rfl | rfl | rfl | rfl | rfl | rfl | rfl | rfl | rfl | rfl | rfl | rfl | rfl
      · exact ⟨false, khas_no kCOMPARISONS (He.eqO_ok N_COMPARISONS_0), ⟨fun h => (nomatch h), fun h => absurd h (no_op (by decide))⟩⟩
      · exact ⟨false, khas_no kCOMPARISONS (He.eqO_ok N_COMPARISONS_1), ⟨fun h => (nomatch h), fun h => absurd h (no_op (by decide))⟩⟩
      · exact ⟨false, khas_no kCOMPARISONS (He.eqO_ok N_COMPARISONS_2), ⟨fun h => (nomatch h), fun h => absurd h (no_op (by decide))⟩⟩
      · exact ⟨false, khas_no kCOMPARISONS (He.eqO_ok N_COMPARISONS_3), ⟨fun h => (nomatch h), fun h => absurd h (no_op (by decide))⟩⟩
      · exact ⟨false, khas_no kCOMPARISONS (He.eqO_ok N_COMPARISONS_4), ⟨fun h => (nomatch h), fun h => absurd h (no_op (by decide))⟩⟩
      · exact ⟨false, khas_no kCOMPARISONS (He.eqO_ok N_COMPARISONS_5), ⟨fun h => (nomatch h), fun h => absurd h (no_op (by decide))⟩⟩
      · exact ⟨false, khas_no kCOMPARISONS (He.eqO_ok N_COMPARISONS_6), ⟨fun h => (nomatch h), fun h => absurd h (no_op (by decide))⟩⟩
      · exact ⟨true, khas_of kCOMPARISONS V_COMPARISONS List.mem_cons_self, ⟨fun _ => ⟨"less", by decide⟩, fun _ => rfl⟩⟩
      · exact ⟨true, khas_of kCOMPARISONS V_COMPARISONS (List.mem_cons_of_mem _ List.mem_cons_self), ⟨fun _ => ⟨"atmost", by decide⟩, fun _ => rfl⟩⟩
      · exact ⟨true, khas_of kCOMPARISONS V_COMPARISONS (List.mem_cons_of_mem _ (List.mem_cons_of_mem _ List.mem_cons_self)), ⟨fun _ => ⟨"same", by decide⟩, fun _ => rfl⟩⟩
      · exact ⟨true, khas_of kCOMPARISONS V_COMPARISONS (List.mem_cons_of_mem _ (List.mem_cons_of_mem _ (List.mem_cons_of_mem _ List.mem_cons_self))), ⟨fun _ => ⟨"less", by decide⟩, fun _ => rfl⟩⟩
      · exact ⟨true, khas_of kCOMPARISONS V_COMPARISONS (List.mem_cons_of_mem _ (List.mem_cons_of_mem _ (List.mem_cons_of_mem _ (List.mem_cons_of_mem _ List.mem_cons_self)))), ⟨fun _ => ⟨"atmost", by decide⟩, fun _ => rfl⟩⟩
      · exact ⟨false, khas_no kCOMPARISONS (He.eqO_ok N_COMPARISONS_7), ⟨fun h => (nomatch h), fun h => absurd h (no_op (by decide))⟩⟩
      · exact ⟨false, khas_no kCOMPARISONS (He.eqO_ok N_COMPARISONS_8), ⟨fun h => (nomatch h), fun h => absurd h (no_op (by decide))⟩⟩
    · intro z hz
      simp only [fol, List.mem_cons, List.not_mem_nil, or_false] at hz
      rcases hz with rfl | rfl | rfl | rfl | rfl | rfl | rfl | rfl | rfl | rfl | rfl | rfl | rfl | rfl
      · exact ⟨false, khas_no kSUMS (He.eqO_ok N_SUMS_0), ⟨fun h => (nomatch h), fun h => absurd h (no_op (by decide))⟩⟩
      · exact ⟨false, khas_no kSUMS (He.eqO_ok N_SUMS_1), ⟨fun h => (nomatch h), fun h => absurd h (no_op (by decide))⟩⟩
      · exact ⟨true, khas_of kSUMS V_SUMS List.mem_cons_self, ⟨fun _ => ⟨"plus", by decide⟩, fun _ => rfl⟩⟩
      · exact ⟨true, khas_of kSUMS V_SUMS (List.mem_cons_of_mem _ List.mem_cons_self), ⟨fun _ => ⟨"minus", by decide⟩, fun _ => rfl⟩⟩
      · exact ⟨false, khas_no kSUMS (He.eqO_ok N_SUMS_2), ⟨fun h => (nomatch h), fun h => absurd h (no_op (by decide))⟩⟩
      · exact ⟨false, khas_no kSUMS (He.eqO_ok N_SUMS_3), ⟨fun h => (nomatch h), fun h => absurd h (no_op (by decide))⟩⟩
      · exact ⟨false, khas_no kSUMS (He.eqO_ok N_SUMS_4), ⟨fun h => (nomatch h), fun h => absurd h (no_op (by decide))⟩⟩
      · exact ⟨false, khas_no kSUMS (He.eqO_ok N_SUMS_5), ⟨fun h => (nomatch h), fun h => absurd h (no_op (by decide))⟩⟩
      · exact ⟨false, khas_no kSUMS (He.eqO_ok N_SUMS_6), ⟨fun h => (nomatch h), fun h => absurd h (no_op (by decide))⟩⟩
      · exact ⟨false, khas_no kSUMS (He.eqO_ok N_SUMS_7), ⟨fun h => (nomatch h), fun h => absurd h (no_op (by decide))⟩⟩
      · exact ⟨false, khas_no kSUMS (He.eqO_ok N_SUMS_8), ⟨fun h => (nomatch h), fun h => absurd h (no_op (by decide))⟩⟩
      · exact ⟨false, khas_no kSUMS (He.eqO_ok N_SUMS_9), ⟨fun h => (nomatch h), fun h => absurd h (no_op (by decide))⟩⟩
      · exact ⟨false, khas_no kSUMS (He.eqO_ok N_SUMS_10), ⟨fun h => (nomatch h), fun h => absurd h (no_op (by decide))⟩⟩
      · exact ⟨false, khas_no kSUMS (He.eqO_ok N_SUMS_11), ⟨fun h => (nomatch h), fun h => absurd h (no_op (by decide))⟩⟩
    · intro z hz
      simp only [fol, List.mem_cons, List.not_mem_nil, or_false] at hz
      rcases hz with rfl | rfl | rfl | rfl | rfl | rfl | rfl | rfl | rfl | rfl | rfl | rfl | rfl | rfl
      · exact ⟨false, khas_no kPRODUCTS (He.eqO_ok N_PRODUCTS_0), ⟨fun h => (nomatch h), fun h => absurd h (no_op (by decide))⟩⟩
      · exact ⟨false, khas_no kPRODUCTS (He.eqO_ok N_PRODUCTS_1), ⟨fun h => (nomatch h), fun h => absurd h (no_op (by decide))⟩⟩
      · exact ⟨false, khas_no kPRODUCTS (He.eqO_ok N_PRODUCTS_2), ⟨fun h => (nomatch h), fun h => absurd h (no_op (by decide))⟩⟩
      · exact ⟨false, khas_no kPRODUCTS (He.eqO_ok N_PRODUCTS_3), ⟨fun h => (nomatch h), fun h => absurd h (no_op (by decide))⟩⟩
      · exact ⟨true, khas_of kPRODUCTS V_PRODUCTS List.mem_cons_self, ⟨fun _ => ⟨"times", by decide⟩, fun _ => rfl⟩⟩
      · exact ⟨true, khas_of kPRODUCTS V_PRODUCTS (List.mem_cons_of_mem _ List.mem_cons_self), ⟨fun _ => ⟨"over", by decide⟩, fun _ => rfl⟩⟩
      · exact ⟨true, khas_of kPRODUCTS V_PRODUCTS (List.mem_cons_of_mem _ (List.mem_cons_of_mem _ List.mem_cons_self)), ⟨fun _ => ⟨"rest", by decide⟩, fun _ => rfl⟩⟩
      · exact ⟨false, khas_no kPRODUCTS (He.eqO_ok N_PRODUCTS_4), ⟨fun h => (nomatch h), fun h => absurd h (no_op (by decide))⟩⟩
      · exact ⟨false, khas_no kPRODUCTS (He.eqO_ok N_PRODUCTS_5), ⟨fun h => (nomatch h), fun h => absurd h (no_op (by decide))⟩⟩
      · exact ⟨false, khas_no kPRODUCTS (He.eqO_ok N_PRODUCTS_6), ⟨fun h => (nomatch h), fun h => absurd h (no_op (by decide))⟩⟩
      · exact ⟨false, khas_no kPRODUCTS (He.eqO_ok N_PRODUCTS_7), ⟨fun h => (nomatch h), fun h => absurd h (no_op (by decide))⟩⟩
      · exact ⟨false, khas_no kPRODUCTS (He.eqO_ok N_PRODUCTS_8), ⟨fun h => (nomatch h), fun h => absurd h (no_op (by decide))⟩⟩
      · exact ⟨false, khas_no kPRODUCTS (He.eqO_ok N_PRODUCTS_9), ⟨fun h => (nomatch h), fun h => absurd h (no_op (by decide))⟩⟩
      · exact ⟨false, khas_no kPRODUCTS (He.eqO_ok N_PRODUCTS_10), ⟨fun h => (nomatch h), fun h => absurd h (no_op (by decide))⟩⟩
    · intro z u h
      simp only [opCmp, List.mem_cons, List.not_mem_nil, or_false, Prod.mk.injEq] at h
      rcases h with ⟨rfl, rfl⟩ | ⟨rfl, rfl⟩ | ⟨rfl, rfl⟩ | ⟨rfl, rfl⟩ | ⟨rfl, rfl⟩
      · exact kdct_of kCOMPARISONS V_COMPARISONS List.mem_cons_self
      · exact kdct_of kCOMPARISONS V_COMPARISONS (List.mem_cons_of_mem _ List.mem_cons_self)
      · exact kdct_of kCOMPARISONS V_COMPARISONS (List.mem_cons_of_mem _ (List.mem_cons_of_mem _ List.mem_cons_self))
      · exact kdct_of kCOMPARISONS V_COMPARISONS (List.mem_cons_of_mem _ (List.mem_cons_of_mem _ (List.mem_cons_of_mem _ List.mem_cons_self)))
      · exact kdct_of kCOMPARISONS V_COMPARISONS (List.mem_cons_of_mem _ (List.mem_cons_of_mem _ (List.mem_cons_of_mem _ (List.mem_cons_of_mem _ List.mem_cons_self))))
    · intro z u h
      simp only [opSum, List.mem_cons, List.not_mem_nil, or_false, Prod.mk.injEq] at h
      rcases h with ⟨rfl, rfl⟩ | ⟨rfl, rfl⟩
      · exact kdct_of kSUMS V_SUMS List.mem_cons_self
      · exact kdct_of kSUMS V_SUMS (List.mem_cons_of_mem _ List.mem_cons_self)
    · intro z u h
      simp only [opPrd, List.mem_cons, List.not_mem_nil, or_false, Prod.mk.injEq] at h
      rcases h with ⟨rfl, rfl⟩ | ⟨rfl, rfl⟩ | ⟨rfl, rfl⟩
      · exact kdct_of kPRODUCTS V_PRODUCTS List.mem_cons_self
      · exact kdct_of kPRODUCTS V_PRODUCTS (List.mem_cons_of_mem _ List.mem_cons_self)
      · exact kdct_of kPRODUCTS V_PRODUCTS (List.mem_cons_of_mem _ (List.mem_cons_of_mem _ List.mem_cons_self))
  have FT : FmT K w A := by
    subst eA
    exact ⟨kdct_of kBLOCK_FORMS V_BLOCK_FORMS List.mem_cons_self, khas_of kBLOCK_FORMS V_BLOCK_FORMS List.mem_cons_self, kdct_of kTHREAD_FORMS V_THREAD_FORMS List.mem_cons_self, khas_of kTHREAD_FORMS V_THREAD_FORMS List.mem_cons_self⟩
  have OT : OpT K w A := by
    subst eA
    refine ⟨?_⟩
    intro u h
    simp only [Ex.words2, List.mem_cons, List.not_mem_nil, or_false] at h
    rcases h with rfl | rfl | rfl | rfl | rfl | rfl | rfl | rfl | rfl | rfl
    · exact kdct_of kOPERATORS V_OPERATORS List.mem_cons_self
    · exact kdct_of kOPERATORS V_OPERATORS (List.mem_cons_of_mem _ List.mem_cons_self)
    · exact kdct_of kOPERATORS V_OPERATORS (List.mem_cons_of_mem _ (List.mem_cons_of_mem _ List.mem_cons_self))
    · exact kdct_of kOPERATORS V_OPERATORS (List.mem_cons_of_mem _ (List.mem_cons_of_mem _ (List.mem_cons_of_mem _ List.mem_cons_self)))
    · exact kdct_of kOPERATORS V_OPERATORS (List.mem_cons_of_mem _ (List.mem_cons_of_mem _ (List.mem_cons_of_mem _ (List.mem_cons_of_mem _ List.mem_cons_self))))
    · exact kdct_of kOPERATORS V_OPERATORS (List.mem_cons_of_mem _ (List.mem_cons_of_mem _ (List.mem_cons_of_mem _ (List.mem_cons_of_mem _ (List.mem_cons_of_mem _ List.mem_cons_self)))))
    · exact kdct_of kOPERATORS V_OPERATORS (List.mem_cons_of_mem _ (List.mem_cons_of_mem _ (List.mem_cons_of_mem _ (List.mem_cons_of_mem _ (List.mem_cons_of_mem _ (List.mem_cons_of_mem _ List.mem_cons_self))))))
    · exact kdct_of kOPERATORS V_OPERATORS (List.mem_cons_of_mem _ (List.mem_cons_of_mem _ (List.mem_cons_of_mem _ (List.mem_cons_of_mem _ (List.mem_cons_of_mem _ (List.mem_cons_of_mem _ (List.mem_cons_of_mem _ List.mem_cons_self)))))))
    · exact kdct_of kOPERATORS V_OPERATORS (List.mem_cons_of_mem _ (List.mem_cons_of_mem _ (List.mem_cons_of_mem _ (List.mem_cons_of_mem _ (List.mem_cons_of_mem _ (List.mem_cons_of_mem _ (List.mem_cons_of_mem _ (List.mem_cons_of_mem _ List.mem_cons_self))))))))
    · exact kdct_of kOPERATORS V_OPERATORS (List.mem_cons_of_mem _ (List.mem_cons_of_mem _ (List.mem_cons_of_mem _ (List.mem_cons_of_mem _ (List.mem_cons_of_mem _ (List.mem_cons_of_mem _ (List.mem_cons_of_mem _ (List.mem_cons_of_mem _ (List.mem_cons_of_mem _ List.mem_cons_self)))))))))
  refine ⟨d71, tf.map (He.cT K), spLaw K A, fun p hp => ?_, fun p hp => ?_, fun p hp => ?_, fun s u => D71.bindsA (ps := ["script"]) (fun _ _ _ _ _ _ us hl => by
    match us, hl with
    | [_], _ => rfl) s [u] rfl, fun H a ns hl _ ht hS => ?_, fun base KB GB TB => ?_⟩
  · obtain ⟨q, hq, rfl⟩ := List.mem_map.mp hp
    exact c.empty q hq
  · obtain ⟨q, hq, rfl⟩ := List.mem_map.mp hp
    exact c.out q hq
  · obtain ⟨q, hq, rfl⟩ := List.mem_map.mp hp
    exact PySem.W.codeHd_of_K X (c.hd q hq)
  · exact law_at hl (by first | exact ht | (rw [eA]; exact ht)) hS
  · rw [← el]
    exact law_ok (by first | exact TB | (rw [eA]; exact TB)) DT FT OT T
end K01
open PySem PySem.W PySem.Calls PyProof.Rows in
set_option maxRecDepth 100000 in
set_option maxHeartbeats 0 in
theorem PySem.Challenge.cw_handshaker_k01_expressions_written_and_r_holds : PySem.Challenge.rw_handshaker_k01_expressions_written_and_r.Holds := by
  w_on; o_law
  refine HandSHeadRun.head_any (r := OpenLaw.row PySem.Challenge.rw_handshaker_k01_expressions_written_and_r) (q := view (OpenLaw.row PySem.Challenge.rw_handshaker_k01_expressions_written_and_r).prog [124]) (H := K01.hk) (ob := K01.ob) (M := 9000) (loose := K01.loose) (d := HandSHeadRun.topDef (OpenLaw.row PySem.Challenge.rw_handshaker_k01_expressions_written_and_r).prog 124) (kwd := []) K01.ob_eq
    (by kernel_rfl) (fun s => by kernel_rfl) K01.run (by kernel_rfl) (by kernel_rfl) (by kernel_rfl) (by rfl) (by first | assumption | decide +kernel) (by decide +kernel) ⟨rfl, rfl, rfl, rfl, rfl, by decide +kernel⟩ ?hw ?hc
  case hw => w_witness2
  case hc =>
    refine LamX.walk_ofTsE (l := PySem.Challenge.rw_handshaker_k01_expressions_written_and_r) (n := 63) (k := 112) (x := "script") (CX := fun _ => L2.CX0) rfl (by decide) (by kernel_rfl) ⟨rfl, by decide, by decide⟩ ?F (fun _ _ _ _ _ z => z)
    intro w mg fa h Y G hmg0
    obtain ⟨K, KX, c⟩ := Y
    have hmg : mg ("law" : PySem.Str) = some (.ref fa) := by
      have e : (HandSHeadRun.topDef (OpenLaw.row PySem.Challenge.rw_handshaker_k01_expressions_written_and_r).prog 124).name = ("law" : PySem.Str) := by kernel_rfl
      rw [← e]
      exact hmg0
    exact ⟨K, KX, K01.facts G hmg KX c⟩

