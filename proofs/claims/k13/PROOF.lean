import PyProof.Rows.All
import Wide.All
import OpenK.AllK
import Wide.FinOn
import HandS.ForMost
import HandS.IsInst
import HandS.Exc
import HandS.ExcOwn
import HandS.TryOnly
import HandS.WordsExc
import HandS.ExcIs
import HandS.ExcInit
import HandS.ExcCtx
import HandS.HotCalls
import HandS.ExcInitHot
import HandS.ExcField
import HandS.Defaults
import HandS.Head0
import HandS.Head1
import HandS.Head2
import HandS.HeadEnd
import HandS.HeadHook1
import HandS.HeadHook2
import HandS.HeadHook3
import HandS.HeadHook4
import HandS.HeadWalk
import HandS.EndTab
import HandS.TryMany
import HandS.Dict
import HandS.Nested
import HandS.NestedK
import HandS.Rev
import HandS.TupAny
import HandS.Codes
import HandS.Text
import HandS.Comp
import HandS.MakeKwOnly
import HandS.Walk
import HandS.More
import KE.KDictList
import HandS.Iter
import HandS.DeepEq
import HandS.ListEq
import PyProof.NeKinds
import PyProof.MeetsIn
import HandS.DictComp
import HandS.Conv
import HandS.Small
import PyProof.P3Eq
import PySem.Challenge.RW_handshaker_k13_whole_blocks
set_option Elab.async false
set_option maxRecDepth 100000
set_option maxHeartbeats 4000000
set_option linter.all false
/-! data as trees, how they lie in a heap, heaps that grow -/
namespace YF
open PySem PySem.Spec PyProof.Rows L2
abbrev St := L2.St

/-- a tree of data; a row of trees is a chain of cons -/
inductive D where
  | non | bl (b : Bool) | int (i : Int) | str (x : Str) | tup (ds : D) | lst (ds : D) | nil | cons (d ds : D)
  deriving DecidableEq
namespace D
def row : List D → D
  | [] => .nil
  | d :: r => .cons d (row r)
def isRow : D → Bool
  | .nil => true
  | .cons _ r => isRow r
  | _ => false
def dep : D → Nat
  | .tup ds => dep ds + 1
  | .lst ds => dep ds + 1
  | .cons d r => max (dep d) (dep r)
  | _ => 0
def len : D → Nat
  | .cons _ r => len r + 1
  | _ => 0
/-- a tree proper: rows stand in tuples and lists alone -/
def ok : D → Bool
  | .tup ds => isRow ds && ok ds
  | .lst ds => isRow ds && ok ds
  | .nil => true
  | .cons d r => !isRow d && ok d && isRow r && ok r
  | _ => true
end D
/-- the values vs are the trees of the row; of a tree that is no row: the one value -/
def Rp (K : PySem.W.Frag) (H : Hp) : D → List V → Prop
  | .non, vs => vs = [.non]
  | .bl b, vs => vs = [.bl b]
  | .int i, vs => vs = [.int i]
  | .str x, vs => vs = [.str x]
  | .tup ds, vs => ∃ a xs, vs = [.ref a] ∧ SqT K H a xs ∧ xs.length ≤ 100000 ∧ Rp K H ds xs
  | .lst ds, vs => ∃ a xs, vs = [.ref a] ∧ SqL K H a xs ∧ xs.length ≤ 100000 ∧ Rp K H ds xs
  | .nil, vs => vs = []
  | .cons d r, vs => ∃ x xs, vs = x :: xs ∧ Rp K H d [x] ∧ Rp K H r xs
section
variable {K : PySem.W.Frag} {H H' : Hp}
theorem Same.sqL {a : Addr} {xs : List V} (e : Same H H') (h : SqL K H a xs) : SqL K H' a xs := Same.seq e h
theorem Same.sqT {a : Addr} {xs : List V} (e : Same H H') (h : SqT K H a xs) : SqT K H' a xs := by
  rcases h with (h | ⟨o, h⟩) | h
  · exact .inl (.inl (e _ _ h))
  · exact .inl (.inr ⟨o, e _ _ h⟩)
  · exact .inr h
theorem Rp.mono (e : Same H H') : ∀ {d : D} {vs : List V}, Rp K H d vs → Rp K H' d vs
  | .non, _, h => h
  | .bl _, _, h => h
  | .int _, _, h => h
  | .str _, _, h => h
  | .tup _, _, ⟨a, xs, e1, h1, h2, h3⟩ => ⟨a, xs, e1, Same.sqT e h1, h2, Rp.mono e h3⟩
  | .lst _, _, ⟨a, xs, e1, h1, h2, h3⟩ => ⟨a, xs, e1, Same.sqL e h1, h2, Rp.mono e h3⟩
  | .nil, _, h => h
  | .cons _ _, _, ⟨x, xs, e1, h1, h2⟩ => ⟨x, xs, e1, Rp.mono e h1, Rp.mono e h2⟩
theorem Rp.row_len : ∀ {d : D} {vs : List V}, d.isRow = true → Rp K H d vs → vs.length = d.len
  | .nil, _, _, h => by
    have e : _ = [] := h
    rw [e]
    rfl
  | .cons _ r, _, q, ⟨x, xs, e1, _, h2⟩ => by
    subst e1
    have := Rp.row_len (d := r) q h2
    simp [D.len, this]
theorem Rp.at_ : ∀ {d : D} {vs ws : List V} {i : Nat} {v : V}, d.isRow = true → d.ok = true → Rp K H d vs → vs[i]? = some v → Rp K H d ws → ∃ (c : D) (u : V), ws[i]? = some u ∧ c.isRow = false ∧ c.ok = true ∧ c.dep ≤ d.dep ∧ Rp K H c [v] ∧ Rp K H c [u]
  | .nil, vs, ws, i, v, _, _, h, e, _ => by
    have h : vs = [] := h
    rw [h] at e
    cases i <;> cases e
  | .cons d r, vs, ws, 0, v, q, o, ⟨x, xs, e1, h1, h2⟩, e, ⟨y, ys, e2, k1, k2⟩ => by
    subst e1 e2
    simp only [D.ok, Bool.and_eq_true, Bool.not_eq_true'] at o
    have ev : x = v := by simpa using e
    rw [ev] at h1
    exact ⟨d, y, rfl, o.1.1.1, o.1.1.2, Nat.le_max_left _ _, h1, k1⟩
  | .cons d r, vs, ws, i + 1, v, q, o, ⟨x, xs, e1, h1, h2⟩, e, ⟨y, ys, e2, k1, k2⟩ => by
    subst e1 e2
    simp only [D.ok, Bool.and_eq_true, Bool.not_eq_true'] at o
    obtain ⟨c, u, g1, g2, g3, g4, g5, g6⟩ := Rp.at_ (d := r) (i := i) (v := v) q o.2 h2 (by simpa using e) k2
    exact ⟨c, u, by simpa using g1, g2, g3, Nat.le_trans g4 (Nat.le_max_right _ _), g5, g6⟩
end

/-! ### heaps that grow: B the part that stands, X what may be written -/
theorem Same.upd {H : Hp} {p : Addr} {o : HO} (h : H p = none) : Same H (upd H p o) := fun b u e => by
  rw [upd_ne (ne_of_none e h)]
  exact e
theorem Same.wr {B H : Hp} {p : Addr} {o : HO} (e : Same B H) (h : B p = none) : Same B (L2.upd H p o) := fun b u q => by
  rw [upd_ne (ne_of_none q h)]
  exact e b u q
structure Grow (X : List Addr) (B H N H' : Hp) : Prop where
  bn : Same B N
  nh : Same N H'
  keep : ∀ a o, a ∉ X → H a = some o → H' a = some o
  there : ∀ a o, H a = some o → ∃ o', H' a = some o'
  frs : ∀ a o, N a = some o → B a = some o ∨ H a = none
/-- every address of X holds a list of ints -/
def Ints (X : List Addr) (H : Hp) : Prop := ∀ p ∈ X, ∃ ns : List Int, H p = some (.lst (ns.map V.int))
def Off (X : List Addr) (B : Hp) : Prop := ∀ p ∈ X, B p = none
section
variable {X : List Addr} {B H N H' N' H'' : Hp}
theorem Grow.refl (e : Same B H) : Grow X B H B H := ⟨Same.refl B, e, fun _ _ _ h => h, fun _ o h => ⟨o, h⟩, fun _ _ h => .inl h⟩
theorem Grow.trans (g : Grow X B H N H') (k : Grow X N H' N' H'') : Grow X B H N' H'' :=
  ⟨g.bn.trans k.bn, k.nh, fun a o n h => k.keep a o n (g.keep a o n h), fun a o h => by
    obtain ⟨o', h'⟩ := g.there a o h
    exact k.there a o' h', fun a o h => by
    rcases k.frs a o h with q | q
    · exact g.frs a o q
    · right
      cases e : H a with
      | none => rfl
      | some u =>
        obtain ⟨o', h'⟩ := g.there a u e
        rw [q] at h'
        cases h'⟩
theorem Grow.more {Y : List Addr} (g : Grow X B H N H') (s : ∀ p ∈ X, p ∈ Y) : Grow Y B H N H' := ⟨g.bn, g.nh, fun a o n h => g.keep a o (fun m => n (s a m)) h, g.there, g.frs⟩
theorem Grow.same (g : Grow [] B H N H') : Same H H' := fun a o h => g.keep a o (by simp) h
/-- a new object, known from now on -/
theorem Grow.new {p : Addr} {o : HO} (e : Same B H) (h : H p = none) : Grow X B H (upd B p o) (upd H p o) := by
  have hb : B p = none := e.free h
  refine ⟨Same.upd hb, fun a u q => ?_, fun a u _ q => Same.upd h a u q, fun a u q => ⟨u, Same.upd h a u q⟩, fun a u q => ?_⟩
  · by_cases z : a = p
    · subst z
      rw [upd_same] at q ⊢
      exact q
    · rw [upd_ne z] at q ⊢
      exact e a u q
  · by_cases z : a = p
    · subst z
      exact .inr h
    · rw [upd_ne z] at q
      exact .inl q
/-- a new object, not known (it may be written later) -/
theorem Grow.new0 {p : Addr} {o : HO} (e : Same B H) (h : H p = none) : Grow X B H B (upd H p o) :=
  ⟨Same.refl B, Same.wr e (e.free h), fun a u _ q => Same.upd h a u q, fun a u q => ⟨u, Same.upd h a u q⟩, fun _ _ q => .inl q⟩
/-- an object of X is written -/
theorem Grow.wr {p : Addr} {o : HO} (e : Same B H) (m : p ∈ X) (h : B p = none) : Grow X B H B (upd H p o) :=
  ⟨Same.refl B, Same.wr e h, fun a u n q => by rw [upd_ne (fun z => n (by rw [z]; exact m))]; exact q, fun a u q => by
    by_cases z : a = p
    · subst z
      exact ⟨o, upd_same⟩
    · exact ⟨u, by rw [upd_ne z]; exact q⟩, fun _ _ q => .inl q⟩
/-- what was made since the start comes to be known -/
theorem Grow.know {B0 H0 : Hp} {p : Addr} {o : HO} (g : Grow X B0 H0 N H') (h0 : H0 p = none) (h : H' p = some o) : Grow X B0 H0 (upd N p o) H' := by
  refine ⟨fun a u q => ?_, fun a u q => ?_, g.keep, g.there, fun a u q => ?_⟩
  · by_cases z : a = p
    · subst z
      have w := g.nh a u (g.bn a u q)
      rw [h] at w
      cases w
      exact upd_same
    · rw [upd_ne z]
      exact g.bn a u q
  · by_cases z : a = p
    · subst z
      rw [upd_same] at q
      cases q
      exact h
    · rw [upd_ne z] at q
      exact g.nh a u q
  · by_cases z : a = p
    · subst z
      exact .inr h0
    · rw [upd_ne z] at q
      exact g.frs a u q
/-- an object that was made since the start, and is not known, is written -/
theorem Grow.wrNew {p : Addr} {o : HO} (g : Grow X B H N H') (h0 : H p = none) (hN : N p = none) : Grow X B H N (upd H' p o) :=
  ⟨g.bn, Same.wr g.nh hN, fun a u n q => by rw [upd_ne (ne_of_none q h0)]; exact g.keep a u n q, fun a u q => by
    rw [upd_ne (ne_of_none q h0)]
    exact g.there a u q, g.frs⟩
theorem Grow.off {Y : List Addr} (g : Grow X B H N H') (hB : Off Y B) (hH : ∀ p ∈ Y, ∃ o, H p = some o) : Off Y N := fun p m => by
  cases e : N p with
  | none => rfl
  | some o =>
    rcases g.frs p o e with q | q
    · rw [hB p m] at q
      cases q
    · obtain ⟨u, hu⟩ := hH p m
      rw [q] at hu
      cases hu
theorem Grow.offI (g : Grow X B H N H') (hB : Off X B) (hI : Ints X H) : Off X N := g.off hB fun p m => by
  obtain ⟨ns, h⟩ := hI p m
  exact ⟨_, h⟩
end

/-! ### evaluation: an expression whose reading is te gives, in the slots σ and over the base B, some tree of which φ holds -/
def EvP (K : PySem.W.Frag) (X : List Addr) (B : Hp) (te : TE) (σ : St) (φ : D → Prop) : Prop :=
  ∀ H1, Same B H1 → Off X B → Ints X H1 → ∀ Q : VK, (∀ v d N H2, Grow X B H1 N H2 → Ints X H2 → φ d → Rp K N d [v] → Q v H2) → te σ H1 Q
def EvPs (K : PySem.W.Frag) (X : List Addr) (B : Hp) (ta : TA) (σ : St) (φ : D → Prop) : Prop :=
  ∀ H1, Same B H1 → Off X B → Ints X H1 → ∀ Q : List V → Hp → Prop, (∀ vs d N H2, Grow X B H1 N H2 → Ints X H2 → φ d → Rp K N d vs → Q vs H2) → ta σ H1 Q
section
variable {K : PySem.W.Frag} {X : List Addr} {B N : Hp} {σ : St} {te tb : TE} {ta : TA} {φ ψ : D → Prop}
theorem EvP.imp (h : EvP K X B te σ φ) (k : ∀ d, φ d → ψ d) : EvP K X B te σ ψ := fun H1 e o j Q q => h H1 e o j Q fun v d N H2 g j2 p r => q v d N H2 g j2 (k d p) r
theorem EvPs.imp (h : EvPs K X B ta σ φ) (k : ∀ d, φ d → ψ d) : EvPs K X B ta σ ψ := fun H1 e o j Q q => h H1 e o j Q fun v d N H2 g j2 p r => q v d N H2 g j2 (k d p) r
theorem EvP.val {v : V} {d : D} (r : Rp K B d [v]) : EvP K X B (tC v) σ (· = d) := fun H1 e _ j Q q => q v d B H1 (Grow.refl e) j rfl r
theorem EvP.var {i : Nat} {v : V} {d : D} (h : σ[i]? = some (some v)) (r : Rp K B d [v]) : EvP K X B (tVar i) σ (· = d) := fun H1 e _ j Q q => ⟨v, h, q v d B H1 (Grow.refl e) j rfl r⟩
theorem EvPs.nil : EvPs K X B tNil σ (· = .nil) := fun H1 e _ j Q q => q [] .nil B H1 (Grow.refl e) j rfl rfl
/-- the base may have grown since -/
theorem EvP.grown (h : ∀ N, Same B N → EvP K X N te σ φ) {H1 H2 : Hp} (g : Grow X B H1 N H2) (o : Off X B) (j1 : Ints X H1) (j : Ints X H2) {Q : VK} (q : ∀ v d N' H3, Grow X B H1 N' H3 → Ints X H3 → φ d → Same N N' → Rp K N' d [v] → Q v H3) : te σ H2 Q :=
  h N g.bn H2 g.nh (g.offI o j1) j Q fun v d N' H3 g2 j2 p r => q v d N' H3 (g.trans g2) j2 p g2.bn r
theorem EvPs.cons (h : EvP K X B te σ φ) (k : ∀ N, Same B N → EvPs K X N ta σ ψ) : EvPs K X B (tCons te ta) σ (fun d => ∃ x r, d = .cons x r ∧ φ x ∧ ψ r) := fun H1 e o j Q q =>
  h H1 e o j _ fun v d N H2 g j2 p r => k N g.bn H2 g.nh (g.offI o j) j2 _ fun vs ds N' H3 g2 j3 p2 r2 =>
    q (v :: vs) (.cons d ds) N' H3 (g.trans g2) j3 ⟨d, ds, rfl, p, p2⟩ ⟨v, vs, rfl, Rp.mono g2.bn r, r2⟩
theorem EvP.tup (h : EvPs K X B ta σ φ) (hl : ∀ d, φ d → d.isRow = true ∧ d.len ≤ 100000) : EvP K X B (tTup ta) σ (fun d => ∃ ds, d = .tup ds ∧ φ ds) := fun H1 e o j Q q =>
  h H1 e o j _ fun vs d N H2 g j2 p r => by
    obtain ⟨h1, h2⟩ := hl d p
    have h3 : vs.length ≤ 100000 := by rw [Rp.row_len h1 r]; exact h2
    refine ⟨Nat.le_trans h3 (by decide), fun a ha => ?_⟩
    have g2 : Grow X N H2 (upd N a (.tup vs)) (upd H2 a (.tup vs)) := Grow.new g.nh ha
    refine q (.ref a) (.tup d) _ _ (g.trans g2) (fun y m => ?_) ⟨d, rfl, p⟩ ⟨a, vs, rfl, SqT.of upd_same, h3, Rp.mono g2.bn r⟩
    obtain ⟨ns, hy⟩ := j2 y m
    exact ⟨ns, Same.upd ha y _ hy⟩
theorem EvP.lst (h : EvPs K X B ta σ φ) (hl : ∀ d, φ d → d.isRow = true ∧ d.len ≤ 100000) : EvP K X B (tLst ta) σ (fun d => ∃ ds, d = .lst ds ∧ φ ds) := fun H1 e o j Q q =>
  h H1 e o j _ fun vs d N H2 g j2 p r => by
    obtain ⟨h1, h2⟩ := hl d p
    have h3 : vs.length ≤ 100000 := by rw [Rp.row_len h1 r]; exact h2
    refine ⟨Nat.le_trans h3 (by decide), fun a ha => ?_⟩
    have g2 : Grow X N H2 (upd N a (.lst vs)) (upd H2 a (.lst vs)) := Grow.new g.nh ha
    refine q (.ref a) (.lst d) _ _ (g.trans g2) (fun y m => ?_) ⟨d, rfl, p⟩ ⟨a, vs, rfl, SqL.of upd_same, h3, Rp.mono g2.bn r⟩
    obtain ⟨ns, hy⟩ := j2 y m
    exact ⟨ns, Same.upd ha y _ hy⟩
/-! the same where the tree is told -/
theorem ed_nil : EvPs K X B tNil σ (· = .nil) := EvPs.nil
theorem ed_cons {d r : D} (h : EvP K X B te σ (· = d)) (k : ∀ N, Same B N → EvPs K X N ta σ (· = r)) : EvPs K X B (tCons te ta) σ (· = .cons d r) :=
  (EvPs.cons h k).imp fun _ ⟨_, _, e, e1, e2⟩ => by rw [e, e1, e2]
theorem ed_tup {ds : D} (h : EvPs K X B ta σ (· = ds)) (h1 : ds.isRow = true := by rfl) (h2 : ds.len ≤ 100000 := by decide) : EvP K X B (tTup ta) σ (· = .tup ds) :=
  (EvP.tup h fun d e => by rw [e]; exact ⟨h1, h2⟩).imp fun _ ⟨_, e, e1⟩ => by rw [e, e1]
theorem ed_lst {ds : D} (h : EvPs K X B ta σ (· = ds)) (h1 : ds.isRow = true := by rfl) (h2 : ds.len ≤ 100000 := by decide) : EvP K X B (tLst ta) σ (· = .lst ds) :=
  (EvP.lst h fun d e => by rw [e]; exact ⟨h1, h2⟩).imp fun _ ⟨_, e, e1⟩ => by rw [e, e1]
theorem ed_int {i : Int} : EvP K X B (tC (.int i)) σ (· = .int i) := EvP.val rfl
theorem ed_str {x : Str} : EvP K X B (tC (.str x)) σ (· = .str x) := EvP.val rfl
theorem ed_non : EvP K X B (tC .non) σ (· = .non) := EvP.val rfl
theorem ed_bl {b : Bool} : EvP K X B (tC (.bl b)) σ (· = .bl b) := EvP.val rfl
theorem ed_var {i : Nat} {v : V} {d : D} (h : σ[i]? = some (some v)) (r : Rp K B d [v]) {N : Hp} (e : Same B N) : EvP K X N (tVar i) σ (· = d) := EvP.var h (Rp.mono e r)
theorem ed_add {i j : Int} (h : EvP K X B te σ (· = .int i)) (k : ∀ N, Same B N → EvP K X N tb σ (· = .int j)) : EvP K X B (tOp (rI0 fun i j => .int (i + j)) te tb) σ (· = .int (i + j)) := fun H1 e o jj Q q =>
  h H1 e o jj _ fun v d N H2 g j2 p r => k N g.bn H2 g.nh (g.offI o jj) j2 _ fun u d' N' H3 g2 j3 p2 r2 => by
    subst p p2
    have e1 : v = .int i := by simpa [Rp] using r
    have e2 : u = .int j := by simpa [Rp] using r2
    exact ⟨i, j, e1, e2, q _ _ N' H3 (g.trans g2) j3 rfl rfl⟩
theorem ed_sub {i j : Int} (h : EvP K X B te σ (· = .int i)) (k : ∀ N, Same B N → EvP K X N tb σ (· = .int j)) : EvP K X B (tOp (rI0 fun i j => .int (i - j)) te tb) σ (· = .int (i - j)) := fun H1 e o jj Q q =>
  h H1 e o jj _ fun v d N H2 g j2 p r => k N g.bn H2 g.nh (g.offI o jj) j2 _ fun u d' N' H3 g2 j3 p2 r2 => by
    subst p p2
    have e1 : v = .int i := by simpa [Rp] using r
    have e2 : u = .int j := by simpa [Rp] using r2
    exact ⟨i, j, e1, e2, q _ _ N' H3 (g.trans g2) j3 rfl rfl⟩
end

/-! ### promises: a def that makes of trees a tree; one that pops from a list of ints besides -/
def SpD (K : PySem.W.Frag) (n : Nat) (pre : D → Prop) (post : D → D → Prop) : Sp := fun vs H Q _ => ∃ B ds, vs.length = n ∧ Same B H ∧ Rp K B ds vs ∧ pre ds ∧
  ∀ v d N H', Grow [] B H N H' → post ds d → Rp K N d [v] → Q v H'
def SpX (K : PySem.W.Frag) (n : Nat) (pre : D → Prop) (post : D → D → Prop) : Sp := fun vs H Q _ => ∃ B p us ds, vs = .ref p :: us ∧ us.length = n ∧ Same B H ∧ Off [p] B ∧ Ints [p] H ∧ Rp K B ds us ∧ pre ds ∧
  ∀ v d N H', Grow [p] B H N H' → Ints [p] H' → post ds d → Rp K N d [v] → Q v H'
section
variable {K : PySem.W.Frag} {X : List Addr} {B : Hp} {σ : St} {ta : TA} {φ : D → Prop} {pre : D → Prop} {post : D → D → Prop} {E : XK} {n : Nat}
theorem EvP.call (h : EvPs K X B ta σ φ) (hp : ∀ d, φ d → pre d ∧ d.isRow = true ∧ d.len = n) : EvP K X B (tCall (SpD K n pre post) [] E ta) σ (fun d => ∃ ds, φ ds ∧ post ds d) := fun H1 e o j Q q =>
  h H1 e o j _ fun vs ds N H2 g j2 p r => by
    obtain ⟨h1, h2, h3⟩ := hp ds p
    show SpD K n pre post (vs ++ []) H2 Q E
    rw [List.append_nil]
    refine ⟨N, ds, (Rp.row_len h2 r).trans h3, g.nh, r, h1, fun v d N' H' g2 p2 r2 => q v d N' H' (g.trans (g2.more (by simp))) (fun y m => ?_) ⟨ds, p, p2⟩ r2⟩
    obtain ⟨ns, hy⟩ := j2 y m
    exact ⟨ns, g2.same y _ hy⟩
theorem EvP.callX {p : Addr} {i : Nat} (hi : σ[i]? = some (some (.ref p))) (h : EvPs K [p] B ta σ φ) (hp : ∀ d, φ d → pre d ∧ d.isRow = true ∧ d.len = n) : EvP K [p] B (tCall (SpX K n pre post) [] E (tCons (tVar i) ta)) σ (fun d => ∃ ds, φ ds ∧ post ds d) := fun H1 e o j Q q =>
  ⟨.ref p, hi, h H1 e o j _ fun vs ds N H2 g j2 p1 r => by
    obtain ⟨h1, h2, h3⟩ := hp ds p1
    show SpX K n pre post ((.ref p :: vs) ++ []) H2 Q E
    rw [List.append_nil]
    exact ⟨N, p, vs, ds, rfl, (Rp.row_len h2 r).trans h3, g.nh, g.offI o j, j2, r, h1, fun v d N' H' g2 j3 p2 r2 => q v d N' H' (g.trans g2) j3 ⟨ds, p1, p2⟩ r2⟩⟩
end
end YF

/-! told trees: what an expression gives, over every base that has grown from B -/
namespace YF
open PySem PySem.Spec PyProof.Rows L2

def Ed (K : PySem.W.Frag) (X : List Addr) (B : Hp) (te : TE) (σ : St) (d : D) : Prop := ∀ N, Same B N → EvP K X N te σ (· = d)
def Eds (K : PySem.W.Frag) (X : List Addr) (B : Hp) (ta : TA) (σ : St) (d : D) : Prop := ∀ N, Same B N → EvPs K X N ta σ (· = d)
/-- what is known of values: their trees -/
def Env (K : PySem.W.Frag) (B : Hp) (l : List (V × D)) : Prop := ∀ p ∈ l, Rp K B p.2 [p.1]
section
variable {K : PySem.W.Frag} {X : List Addr} {B N H H2 : Hp} {σ : St} {te tb tl : TE} {ta : TA} {l : List (V × D)} {v : V} {d : D}
theorem Env.nil : Env K B [] := fun _ h => by cases h
theorem Env.add (e : Env K B l) (r : Rp K B d [v]) : Env K B ((v, d) :: l) := fun p h => by
  rcases List.mem_cons.mp h with h | h
  · rw [h]
    exact r
  · exact e p h
theorem Env.mono (e : Env K B l) (s : Same B N) : Env K N l := fun p h => Rp.mono s (e p h)
theorem Env.at_ (e : Env K B l) (i : Nat) (h : l[i]? = some (v, d)) : Rp K B d [v] := e _ (List.mem_of_getElem? h)
/-- a value's tree, at the i-th place -/
theorem ev_at (j : Nat) (e : Env K B l) {i : Nat} (hs : σ[i]? = some (some v)) (h : l[j]? = some (v, d)) : Ed K X B (tVar i) σ d := fun N s => EvP.var hs (Rp.mono s (e.at_ j h))
theorem ev_var {i : Nat} (hs : σ[i]? = some (some v)) (r : Rp K B d [v]) : Ed K X B (tVar i) σ d := fun N s => EvP.var hs (Rp.mono s r)
theorem ev_val (r : Rp K B d [v]) : Ed K X B (tC v) σ d := fun N s => EvP.val (Rp.mono s r)
theorem ev_int {i : Int} : Ed K X B (tC (.int i)) σ (.int i) := fun N s => ed_int
theorem ev_str {x : Str} : Ed K X B (tC (.str x)) σ (.str x) := fun N s => ed_str
theorem ev_non : Ed K X B (tC .non) σ .non := fun N s => ed_non
theorem ev_bl {b : Bool} : Ed K X B (tC (.bl b)) σ (.bl b) := fun N s => ed_bl
theorem ev_nil : Eds K X B tNil σ .nil := fun N s => EvPs.nil
theorem ev_cons {d r : D} (h : Ed K X B te σ d) (k : Eds K X B ta σ r) : Eds K X B (tCons te ta) σ (.cons d r) := fun N s => ed_cons (h N s) fun N' s' => k N' (s.trans s')
theorem ev_tup {ds : D} (h : Eds K X B ta σ ds) (h1 : ds.isRow = true := by rfl) (h2 : ds.len ≤ 100000 := by first | decide | simp [D.len]) : Ed K X B (tTup ta) σ (.tup ds) := fun N s => ed_tup (h N s) h1 h2
theorem ev_lst {ds : D} (h : Eds K X B ta σ ds) (h1 : ds.isRow = true := by rfl) (h2 : ds.len ≤ 100000 := by first | decide | simp [D.len]) : Ed K X B (tLst ta) σ (.lst ds) := fun N s => ed_lst (h N s) h1 h2
theorem ev_add {i j : Int} (h : Ed K X B te σ (.int i)) (k : Ed K X B tb σ (.int j)) : Ed K X B (tOp (rI0 fun i j => .int (i + j)) te tb) σ (.int (i + j)) := fun N s => ed_add (h N s) fun N' s' => k N' (s.trans s')
theorem ev_sub {i j : Int} (h : Ed K X B te σ (.int i)) (k : Ed K X B tb σ (.int j)) : Ed K X B (tOp (rI0 fun i j => .int (i - j)) te tb) σ (.int (i - j)) := fun N s => ed_sub (h N s) fun N' s' => k N' (s.trans s')
/-- an item of a tuple that stands -/
theorem ev_ixT {a : Addr} {xs : List V} {ds : D} {i : Int} {c : D} {u : V} (hv : Ed K X B te σ (.tup ds)) (hi : Ed K X B tb σ (.int i)) (h : ∀ N xs, Rp K N ds xs → ∃ u, atI xs i = some u ∧ Rp K N c [u]) : Ed K X B (tOp (rIxT K) te tb) σ c := fun N s H1 e o j Q q =>
  hv N s H1 e o j _ fun v d N2 H2 g j2 p r => hi N2 (s.trans g.bn) H2 g.nh (g.offI o j) j2 _ fun w d' N3 H3 g3 j3 p3 r3 => by
    subst p p3
    obtain ⟨a, xs, e1, r1, _, r2⟩ := r
    have e2 : w = .int i := by simpa [Rp] using r3
    obtain ⟨u, h1, h2⟩ := h N3 xs (Rp.mono g3.bn r2)
    exact ⟨a, xs, i, u, (List.cons.inj e1).1, e2, Same.sqT (g3.bn.trans g3.nh) r1, h1, q u c N3 H3 (g.trans g3) j3 rfl h2⟩
theorem ev_ixL {ds : D} {i : Int} {c : D} (hv : Ed K X B te σ (.lst ds)) (hi : Ed K X B tb σ (.int i)) (h : ∀ N xs, Rp K N ds xs → ∃ u, atI xs i = some u ∧ Rp K N c [u]) : Ed K X B (tOp (rIxL K) te tb) σ c := fun N s H1 e o j Q q =>
  hv N s H1 e o j _ fun v d N2 H2 g j2 p r => hi N2 (s.trans g.bn) H2 g.nh (g.offI o j) j2 _ fun w d' N3 H3 g3 j3 p3 r3 => by
    subst p p3
    obtain ⟨a, xs, e1, r1, _, r2⟩ := r
    have e2 : w = .int i := by simpa [Rp] using r3
    obtain ⟨u, h1, h2⟩ := h N3 xs (Rp.mono g3.bn r2)
    exact ⟨a, xs, i, u, (List.cons.inj e1).1, e2, Same.sqL (g3.bn.trans g3.nh) r1, h1, q u c N3 H3 (g.trans g3) j3 rfl h2⟩
/-- a def that makes of trees the tree that f says -/
def SpG (K : PySem.W.Frag) (n : Nat) (pre : D → Prop) (f : D → D) : Sp := SpD K n (fun ds => ds.isRow = true ∧ ds.len = n ∧ pre ds) (fun ds d => d = f ds)
theorem ev_call {ds d : D} {pre : D → Prop} {f : D → D} {E : XK} {n : Nat} (h : Eds K X B ta σ ds) (hp : pre ds) (h1 : ds.isRow = true := by rfl) (h2 : ds.len = n := by rfl) (h3 : f ds = d := by rfl) : Ed K X B (tCall (SpG K n pre f) [] E ta) σ d := fun N s =>
  (EvP.call (h N s) fun d e => by subst e; exact ⟨⟨h1, h2, hp⟩, h1, h2⟩).imp fun _ ⟨_, e, e1⟩ => by rw [e1, e, h3]
theorem ev_tupX {ds : D} (h : Eds K X B ta σ ds) (h1 : ds.isRow = true) (h2 : ds.len ≤ 100000) : Ed K X B (tTup ta) σ (.tup ds) := ev_tup h h1 h2
theorem ev_lstX {ds : D} (h : Eds K X B ta σ ds) (h1 : ds.isRow = true) (h2 : ds.len ≤ 100000) : Ed K X B (tLst ta) σ (.lst ds) := ev_lst h h1 h2
theorem ev_callX {ds d : D} {pre : D → Prop} {f : D → D} {E : XK} {n : Nat} (h : Eds K X B ta σ ds) (hp : pre ds) (h1 : ds.isRow = true) (h2 : ds.len = n) (h3 : f ds = d) : Ed K X B (tCall (SpG K n pre f) [] E ta) σ d := ev_call h hp h1 h2 h3

/-! statements -/
theorem Ed.go {Q : VK} (h : Ed K X B te σ d) (s : Same B H) (o : Off X B) (j : Ints X H) (k : ∀ v N H2, Grow X B H N H2 → Ints X H2 → Rp K N d [v] → Q v H2) : te σ H Q :=
  h B (Same.refl B) H s o j Q fun v d' N H2 g j2 p r => by subst p; exact k v N H2 g j2 r
variable {E : Ends} {rest : TS} {i : Nat}
theorem go_ret (h : Ed K X B te σ d) (s : Same B H) (o : Off X B) (j : Ints X H) (k : ∀ v N H2, Grow X B H N H2 → Ints X H2 → Rp K N d [v] → E.rt v H2) : tRet te E σ H := h.go s o j k
theorem go_asg (h : Ed K X B te σ d) (s : Same B H) (o : Off X B) (j : Ints X H) (e : Env K B l) (k : ∀ v N H2, Grow X B H N H2 → Ints X H2 → Env K N ((v, d) :: l) → rest E (σ.set i (some v)) H2) : tSeq (tAsg te (gName i)) rest E σ H :=
  h.go s o j fun v N H2 g j2 r => k v N H2 g j2 ((e.mono g.bn).add r)
theorem go_next (h : E.nx σ H) : tNext E σ H := h
theorem no_ints : Ints [] H := fun _ h => by cases h
theorem no_off : Off [] B := fun _ h => by cases h
/-- a def's arguments: a row of one, two, three trees -/
theorem row1 {ds : D} {vs : List V} (h : ds.isRow = true ∧ ds.len = 1) (r : Rp K B ds vs) : ∃ a v, ds = .cons a .nil ∧ vs = [v] ∧ Env K B [(v, a)] := by
  obtain ⟨h1, h2⟩ := h
  match ds, h1, h2, r with
  | .cons a .nil, _, _, ⟨v, us, e, r1, r2⟩ =>
    have e2 : us = [] := r2
    subst e e2
    exact ⟨a, v, rfl, rfl, Env.nil.add r1⟩
theorem row2 {ds : D} {vs : List V} (h : ds.isRow = true ∧ ds.len = 2) (r : Rp K B ds vs) : ∃ a b v w, ds = .cons a (.cons b .nil) ∧ vs = [v, w] ∧ Env K B [(v, a), (w, b)] := by
  obtain ⟨h1, h2⟩ := h
  match ds, h1, h2, r with
  | .cons a (.cons b .nil), _, _, ⟨v, us, e, r1, w, us', e', r1', r2⟩ =>
    have e2 : us' = [] := r2
    subst e e' e2
    exact ⟨a, b, v, w, rfl, rfl, (Env.nil.add r1').add r1⟩
theorem row3 {ds : D} {vs : List V} (h : ds.isRow = true ∧ ds.len = 3) (r : Rp K B ds vs) : ∃ a b c v w x, ds = .cons a (.cons b (.cons c .nil)) ∧ vs = [v, w, x] ∧ Env K B [(v, a), (w, b), (x, c)] := by
  obtain ⟨h1, h2⟩ := h
  match ds, h1, h2, r with
  | .cons a (.cons b (.cons c .nil)), _, _, ⟨v, us, e, r1, w, us', e', r1', x, us2, e3, r3, r2⟩ =>
    have e2 : us2 = [] := r2
    subst e e' e3 e2
    exact ⟨a, b, c, v, w, x, rfl, rfl, ((Env.nil.add r3).add r1').add r1⟩
/-- what a def's end asks -/
theorem SpD.len {n : Nat} {pre : D → Prop} {post : D → D → Prop} {vs : List V} {Q : VK} {E : XK} (h : SpD K n pre post vs H Q E) : vs.length = n := by
  obtain ⟨_, _, e, _⟩ := h
  exact e
end
end YF

namespace YF
open PySem PySem.Spec PyProof.Rows L2
section
variable {X : Cx} {C : Addr} {bmB : List Value} {B newId initId : String}
/-- X(), an own exception class without __init__, made of nothing -/
theorem pmk_none {x : Str} {p pos : Pos} (F : ExcBaseFacts B newId initId bmB) (q : PySem.W.excIn X.K C bmB newId = true) (gC : X.mg x = some (.ref C)) (kC : PySem.W.keepIn X.K (.ref C) = true) (r : Raises X (.ref C)) (hg : Gl X x)
    (hdb : (x == ("__debug__" : Str)) = false := by decide) : PMk X (.Call (.Name x p) [] [] pos) (fun _ H Q => Q (.ref C) none H) := fun pins s σ H Q I h => by
  refine wpAny_Call_Name_kw (ld_glob I hg gC (PySem.W.callWith_K0 I.kIn kC ?_) hdb)
  obtain ⟨bm, N, nm, qn, bs, hdct, sn, sub, ab, col, dd, k0, k1, k2, k3, k5, mN, h1, h2, h3, h4⟩ := exc_obj I.kIn q
  exact wpAny_call_exc_subT F h4 h1 h2 h3 (fun h' e hm => mk_of I hm r h (I.hok.gone hm.new)) (Nat.zero_le _)
end
/-- a call of what stands at a place of a list: the def is told by its address -/
def tCallE (te : TE) (S : Addr → Sp → Prop) (E : St → XK) (t : TA) : TE := fun σ H Q => te σ H fun v H1 => ∃ f sp, v = .ref f ∧ S f sp ∧ t σ H1 fun vs H2 => sp vs H2 Q (E σ)
theorem call_sub (e i : Expr) (p2 : Pos) (args : List Expr) (pos : Pos) (env : PySem.Env) : eval (.Call (.Subscript e i p2) args [] pos) env = (do
    callWith pos (← eval (.Subscript e i p2) env) [] (backTo pos (starEach args env)) (backToKw pos (keywordEach [] env))) := rfl
theorem pe_callE {X : Cx} {e0 i0 : Expr} {p2 pos : Pos} {te : TE} {S : Addr → Sp → Prop} {E : St → XK} {e : Expr} {es : List Expr} {t : TA} {CX : CXT} {k : Nat} (he : PE X (.Subscript e0 i0 p2) te)
    (hS : ∀ f sp, S f sp → ∃ (fd : FuncData) (ps : List Str), FnOk X.prog X.w X.K X.mg X.base CX k f fd ps sp ∧ PySem.W.keepIn X.K (.ref f) = true ∧ Binds X.K fd ps []) (hr : Room k X.A) (hx : ∀ σ, PassesAt CX X σ (E σ)) (ha : PA X (e :: es) t)
    (hst : starEach (e :: es) X.env = (false, eval e X.env) :: starEach es X.env := by rfl) (hpl : (backTo pos (starEach es X.env)).any (·.1) = false := by rfl) : PE X (.Call (.Subscript e0 i0 p2) (e :: es) [] pos) (tCallE te S E t) := by
  refine ⟨fun pins s σ H Q I h => ?_⟩
  rw [call_sub]
  refine wpAny_bind (thn (he.run pins s σ H _ I h) fun u s1 ⟨v, H1, I1, r1, f, sp, ev, hs, q⟩ => ?_)
  subst ev
  cases r1
  obtain ⟨fd, ps, F, hk, hb⟩ := hS f sp hs
  refine PySem.W.callWith_K (h₀ := X.base) I1.ok.mod.kin hk (thn (ha.run pos pins s1 σ H1 _ I1 q) fun us s2 ⟨vs, H2, I2, r2, q2⟩ => ⟨I2.kIn, ?_⟩) hst hpl
  exact run_fnS F hr hb (hx σ) I2 r2 q2
end YF

/-! readings that leave the heap as it is: Te gives a value, Tt a truth value -/
namespace YF
open PySem PySem.Spec PyProof.Rows L2
def Te (te : TE) (σ : St) (H : Hp) (v : V) : Prop := ∀ Q : VK, Q v H → te σ H Q
def Tt (t : TT) (σ : St) (H : Hp) (b : Bool) : Prop := ∀ Q : Bool → Hp → Prop, Q b H → t σ H Q
section
variable {K : PySem.W.Frag} {σ : St} {H : Hp} {ta tb te : TE} {t u : TT} {x y z v : V} {a b : Bool} {i j : Int}
theorem te_var {i : Nat} (h : σ[i]? = some (some v)) : Te (tVar i) σ H v := fun Q q => ⟨v, h, q⟩
theorem te_c : Te (tC v) σ H v := fun Q q => q
theorem te_i0 {g : Int → Int → V} (ha : Te ta σ H (.int i)) (hb : Te tb σ H (.int j)) : Te (tOp (rI0 g) ta tb) σ H (g i j) := fun Q q => ha _ (hb _ ⟨i, j, rfl, rfl, q⟩)
theorem te_i {C : Int → Int → Prop} {g : Int → Int → V} (ha : Te ta σ H (.int i)) (hb : Te tb σ H (.int j)) (hc : C i j) : Te (tOp (rI C g) ta tb) σ H (g i j) := fun Q q => ha _ (hb _ ⟨i, j, rfl, rfl, hc, q⟩)
theorem te_eq (ha : Te ta σ H x) (hb : Te tb σ H y) (hs : scal x y = true) : Te (tOp rEq ta tb) σ H (.bl (decide (x = y))) := fun Q q => ha _ (hb _ ⟨hs, q⟩)
theorem te_ne (ha : Te ta σ H x) (hb : Te tb σ H y) (hs : scal x y = true) : Te (tOp rNe ta tb) σ H (.bl (!decide (x = y))) := fun Q q => ha _ (hb _ ⟨hs, q⟩)
theorem te_len {p : Addr} {xs : List V} (ha : Te te σ H (.ref p)) (h : SqL K H p xs ∨ SqT K H p xs) : Te (tCB (fun vs H Q => ∃ p ys, vs = [.ref p] ∧ (SqL K H p ys ∨ SqT K H p ys) ∧ Q (.int ys.length) H) (tCons te tNil)) σ H (.int (xs.length : Int)) := fun Q q => ha _ ⟨p, xs, rfl, h, q⟩
theorem te_lens {w : Str} (ha : Te te σ H (.str w)) (h : w.length ≤ sizeLine) : Te (tCB (fun xs H Q => ∃ z, xs = [V.str z] ∧ z.length ≤ sizeLine ∧ Q (.int z.length) H) (tCons te tNil)) σ H (.int (w.length : Int)) := fun Q q => ha _ ⟨w, rfl, h, q⟩
theorem tt_test (h : Te te σ H (.bl b)) : Tt (tTest te) σ H b := fun Q q => h _ ⟨b, rfl, q⟩
theorem tt_b (h : Te te σ H (.bl b)) : Tt (tB te) σ H b := fun Q q => h _ ⟨b, rfl, q⟩
theorem tt_and (h1 : Tt t σ H a) (h2 : a = true → Tt u σ H b) : Tt (tAnd t u) σ H (a && b) := fun Q q => h1 _ (by
  cases a with
  | true => exact h2 rfl Q q
  | false => exact q)
theorem tt_or (h1 : Tt t σ H a) (h2 : a = false → Tt u σ H b) : Tt (tOr t u) σ H (a || b) := fun Q q => h1 _ (by
  cases a with
  | true => exact q
  | false => exact h2 rfl Q q)
theorem tt_not (h : Tt t σ H a) : Tt (tNot t) σ H (!a) := fun Q q => h _ q
variable {D : Ends} {tu tw rest : TS}
theorem if_go (h : Tt t σ H b) (h1 : b = true → tu D σ H) (h2 : b = false → tw D σ H) : tIfS t tu tw D σ H := h _ (by
  cases b with
  | true => exact h1 rfl
  | false => exact h2 rfl)
/-- if t: (leaves); then the rest -/
theorem if_seq (h : Tt t σ H b) (h1 : b = true → tu { D with nx := rest D } σ H) (h2 : b = false → rest D σ H) : tSeq (tIfS t tu tNext) rest D σ H := if_go h h1 h2
theorem ret_te (h : Te te σ H v) (k : D.rt v H) : tRet te D σ H := h _ k
theorem asg_te {i : Nat} (h : Te te σ H v) (k : rest D (σ.set i (some v)) H) : tSeq (tAsg te (gName i)) rest D σ H := h _ k
end
end YF

/-! an exception with an own __init__ is made where none is handled: it has no context -/
namespace YF
open PySem PySem.Spec PyProof.Rows L2
theorem pmkN_oex {X : Cx} {e : Expr} {es : List Expr} {ta : TA} {p pos : Pos} {CX : CXT} {x : Str} {C fI : Addr} {k : Nat} {fd : FuncData} {ps : List Str} {sp : Sp} (T : OexC X.K C) (iC : PySem.W.findIn X.K (.ref C) "__init__" = some (some (.ref fI))) (tI : PySem.W.typeIn X.K (.ref fI) = some (.type "function"))
    (F1 : FnOk X.prog X.w X.K X.mg X.base CX k fI fd ps sp) (hr : Room (k + 1) X.A) (hb : Binds X.K fd ps []) (hx : Passes CX X (fun _ _ _ => False)) (hg : Gl X x) (hm : X.mg x = some (.ref C)) (ha : PA X (e :: es) ta)
    (hdb : (x == ("__debug__" : Str)) = false := by decide) (he : starEach (e :: es) X.env = (false, eval e X.env) :: starEach es X.env := by rfl) (hpl : (backTo pos (starEach es X.env)).any (·.1) = false := by rfl) : L2N.PMk X (.Call (.Name x p) (e :: es) [] pos) (tMkO C sp [] ta) := by
  intro pins s σ H Q I h
  obtain ⟨nm, q, N, bs, bm, sn, sub, ab, col, dd, k0, k1, k2, k3, k5, hC, hbm⟩ := T.cls
  refine wpAny_Call_Name_kw (ld_glob I hg hm (PySem.W.callWith_K (h₀ := X.base) I.ok.mod.kin T.kC (thn (ha.run pos pins s σ H _ I h) fun us s1 hh => ?_) he hpl) hdb)
  obtain ⟨vs, H1, I1, r1, hz, q1⟩ := hh
  refine ⟨I1.kIn, ?_⟩
  obtain ⟨hp, g, dr, tk, os⟩ := s1
  show wpAny _ _ (call (.ref C) us) _ _ _
  have hsz : hp.objs.size ≤ hp.objs.size + 1 := Nat.le_succ _
  have hn : H1 (hp.objs.size + 1) = none := I1.hok.fresh hsz
  have hq := q1 (hp.objs.size + 1) hn
  have kk : ∀ b o, hp.get? b = some o → ((hp.push (PySem.W.kdv_tup us)).push (HandSPX.excO C hp.objs.size)).get? b = some o := fun b o e => Heap.get?_push_of_some _ (Heap.get?_push_of_some _ e)
  have hget : ((hp.push (PySem.W.kdv_tup us)).push (HandSPX.excO C hp.objs.size)).get? (hp.objs.size + 1) = some (HandSPX.excO C hp.objs.size) := by heap_get
  have I2 := I1.laid (t' := tk) kk hsz (exo_ok hget)
  have r2 : Vals (V.ref (hp.objs.size + 1) :: (vs ++ [])) (Value.ref (hp.objs.size + 1) :: (us ++ [])) := Paired.cons rfl (Vals.append r1 Paired.nil)
  have hl : (Value.ref (hp.objs.size + 1) :: (us ++ [])).length = ps.length := by
    rw [← Vals.length r2]
    exact F1.len _ _ _ _ hq
  have hus : us.length ≤ sizeLine := by
    rw [← Vals.length r1, sizeLine_eq]
    omega
  refine wpAny_call (HandSPX.call_own F.excBase_ValueError (fun Y => HandSPX.refsVE_contains Y bm hbm) (I1.kIn C _ hC) (PySem.W.looks_findIn I1.kIn iC) (fun self => PySem.W.bind_fn I1.kIn self tI) hus
    (codeAny_mono (F1.run _ X.stack _ _ _ _ _ _ _ (hr.make C us []) (I2.env0.make C us []) (hb _ _ I2.kIn hl) r2 hq) fun r s' hq' => ?_))
  cases r with
  | error er => exact hx pins σ _ _ er s' I2 hq'
  | ok fl =>
    cases fl with
    | ret u =>
      obtain ⟨v, H2, os2, bare2, un2, hok2, rv, ev, d, fs, ea, ed, hd1, q2⟩ := hq'
      subst ev
      obtain ⟨h2, g2, d2, t2, os'⟩ := s'
      refine ⟨rv, ?_⟩
      obtain ⟨a, oe, vs', sI, H', cls, dd', e1, J, k1', n1, o1, z1, f1, f2, n2, s2, b2, rr, qq⟩ := mk_end (d2 := d2) (t2 := t2) (raises_own T.exC T.tyC) I1 hsz kk un2 hok2 os2 bare2 ea ed hd1 q2
      cases e1
      refine ⟨_, oe, vs', sI, H', cls, dd', rfl, J, k1', n1, o1, ⟨z1.1, z1.2, fun ws hw => ?_⟩, f1, f2, n2, s2, b2, rr, qq⟩
      obtain ⟨t1, ht⟩ : ∃ t1, h2.get? (hp.objs.size + 1) = some { cls := .ref C, dict := some d, data := .fields #[.ref t1, .none, .none, .none, .bool false, .none] } := (hok2 _ _ ea).1
      have o2 : oe = _ := Option.some.inj (o1.symm.trans ht)
      rw [o2] at hw
      cases hw
      rfl
    | _ => exact hq'.elim
/-- a def that may raise without a context -/
theorem okN {P : Program} {w : World} {K : PySem.W.Frag} {mg : Str → Option Value} {base : Heap} {x qual : Str} {st : Stmt} {f : Addr} {fd : FuncData} {N ps : List Str} {k : Nat} {sp : Sp} (F : Fun K x qual st f fd) (S : FnScope N ps (defScope st)) (len : ∀ (vs : List V) (H : Hp) (Q : VK) (E : XK), sp vs H Q E → vs.length = ps.length)
    (hb : ∀ (cdv : Value) (A : Around) (outer : List PySem.Env) (s : Shared) (H : Hp) (vs : List V) (Q : VK) (E : XK), Room k (A.deeper (PyProof.Rows.envOfC qual (defScope st) s.heap.objs.size f cdv)) → sp vs H Q E →
      ∃ t, PSs (cxOf (L2N.CX P w) P w K mg base N qual (defScope st) f cdv A outer s H E) (defBody st) t ∧ t { nx := fun _ H' => Q V.non H', rt := Q } (L2.start N vs) H) : FnOk P w K mg base (L2N.CX P w) (k + 1) f fd ps sp := by
  obtain ⟨oc, od, kV, doc, pm, an, cdv, ct, osl, rfl, lk, hcd⟩ := F.ex
  exact L2.fn_of lk hcd S len fun A outer s H vs Q E hr h => hb cdv A outer s H vs Q E hr h
theorem passLN {X : Cx} : Passes (L2N.CX X.prog X.w) X E0 := fun pins σ H s e s' I h => by
  obtain ⟨a, B, H', cls, d, _, _, _, _, _, _, _, h⟩ := h
  exact h.elim
theorem takes0N {X : Cx} : L2N.Takes X (fun _ _ _ _ => False) := fun u s' h => by
  obtain ⟨a, B, sI, pins, σ, H', cls, d, _, _, _, _, _, _, _, _, h⟩ := h
  exact (by first | exact h.elim | exact h.2.elim | exact h.2.2.elim)
end YF

/-! the end by facts that a Hook reads: what my texts ask of it besides -/
namespace YF
open PySem PySem.Spec PyProof.Rows L2
/-- an own exception class with an own __init__ over ValueError -/
def oexB (K : PySem.W.Frag) (C : Addr) : Bool := (match K.lookup C with
  | some ⟨.type "type", _, .cls cd, sl⟩ => (match cd.mro, sl.toList with
    | .ref C' :: bm, [_, _, _, _, some (.builtin n), _] => decide (C' = C) && (decide (n = "ValueError.__new__") && (!cd.hasDel && (cd.hasDict && HandSPX.refsVE bm)))
    | _, _ => false)
  | _ => false) && (decide (PySem.W.findIn K (.ref C) "__setattr__" = some (some (.builtin "object.__setattr__"))) && (decide (PySem.W.subIn K (.ref C) (.type "BaseException") = some true) &&
    (decide (PySem.W.typeIn K (.ref C) = some (.type "type")) && PySem.W.keepIn K (.ref C))))
theorem oexB_ok {K : PySem.W.Frag} {C : Addr} (h : oexB K C = true) : OexC K C := by
  unfold oexB at h
  obtain ⟨h1, h⟩ := Bool.and_eq_true_iff.mp h
  obtain ⟨h2, h⟩ := Bool.and_eq_true_iff.mp h
  obtain ⟨h3, h⟩ := Bool.and_eq_true_iff.mp h
  obtain ⟨h4, h5⟩ := Bool.and_eq_true_iff.mp h
  refine ⟨?_, of_decide_eq_true h2, of_decide_eq_true h3, of_decide_eq_true h4, h5⟩
  split at h1
  · rename_i dd cd sl ho
    split at h1
    · rename_i C' bm k0 k1 k2 k3 n k5 hm hs
      obtain ⟨g1, h1⟩ := Bool.and_eq_true_iff.mp h1
      obtain ⟨g2, h1⟩ := Bool.and_eq_true_iff.mp h1
      obtain ⟨g3, h1⟩ := Bool.and_eq_true_iff.mp h1
      obtain ⟨g4, g5⟩ := Bool.and_eq_true_iff.mp h1
      have e1 := of_decide_eq_true g1
      have e2 := of_decide_eq_true g2
      subst e1 e2
      obtain ⟨nm, bs, mro, ns, qn, hd, sn, sub, ab, col, del⟩ := cd
      dsimp only at hm g3 g4
      have g3' : del = false := by
        cases del with
        | false => rfl
        | true => cases g3
      subst hm g3' g4
      have hsl : sl = #[k0, k1, k2, k3, some (.builtin "ValueError.__new__"), k5] := by
        obtain ⟨l⟩ := sl
        simp only at hs
        rw [hs]
      subst hsl
      exact ⟨nm, qn, ns, bs, bm, sn, sub, ab, col, dd, k0, k1, k2, k3, k5, ho, g5⟩
    · cases h1
  · cases h1
/-- a def without defaults, told by the Hook, as my texts name it -/
theorem fun_of {K : PySem.W.Frag} {x q : Str} {st : Stmt} {f : Addr} {fd : FuncData} (F : FunD K x q (defArgs st) (defBody st) (defScope st) [] [] f fd) : Fun K x q st f fd := by
  obtain ⟨⟨oc, od, dV, kV, doc, pm, an, cdv, ct, osl, e, lk, hc, hd, hk⟩, kp⟩ := F
  have e1 : dV = .none := by
    rcases hd with ⟨_, h⟩ | ⟨h, _⟩
    · exact h
    · exact absurd rfl h
  subst e1 e
  exact fun_mk lk hc kp
def fnB (K : PySem.W.Frag) (C : Addr) (m : Str) (f : Addr) : Bool := decide (PySem.W.findIn K (.ref C) m = some (some (.ref f))) && decide (PySem.W.typeIn K (.ref f) = some (.type "function"))
def noB (K : PySem.W.Frag) (C : Addr) (m : Str) : Bool := decide (PySem.W.findIn K (.ref C) m = some none)
end YF

/-! methods and makings that may raise within a try: what is wanted of the raised thing may hang on the slots -/
namespace YF
open PySem PySem.Spec PyProof.Rows L2
def tMethE (m : Str) (sp : Sp) (E : St → XK) (to : TE) (t : TA) : TE := fun σ H Q => to σ H fun x H1 => ∃ a C dx fs, x = .ref a ∧ H1 a = some (.ins C dx fs) ∧ fs.lookup m = none ∧ t σ H1 fun vs H2 => sp (x :: vs) H2 Q (E σ)
def tMethC (C : Addr) (m : Str) (sp : Sp) (E : St → XK) (to : TE) (t : TA) : TE := fun σ H Q => to σ H fun x H1 =>
  ∃ a dx fs, x = .ref a ∧ H1 a = some (.ins C dx fs) ∧ fs.lookup m = none ∧ t σ H1 fun vs H2 => sp (x :: vs) H2 Q (E σ)
def tMakeE (C : Addr) (sp : Sp) (E : St → XK) (t : TA) : TE := fun σ H Q => t σ H fun vs H1 =>
  ∀ x dx, H1 x = none → H1 dx = none → dx ≠ x → sp (.ref x :: vs) (upd (upd H1 dx (.own x)) x (.ins C dx [])) (fun v H2 => v = .non ∧ Q (.ref x) H2) (E σ)
section
variable {X : Cx} {CX : CXT} {k : Nat} {f C : Addr} {fd : FuncData} {ps : List Str} {sp : Sp} {E : St → XK} {x m : Str} {p pos apos : Pos} {e o : Expr} {es : List Expr} {to : TE} {t : TA}
theorem pe_methE {pl : Sem Bool} (he : PE X o to) (c : Cls X.K C) (hm : Meth X.K C m f) (F : FnOk X.prog X.w X.K X.mg X.base CX k f fd ps sp) (hr : Room k X.A) (hb : Binds X.K fd ps []) (hx : ∀ σ, PassesAt CX X σ (E σ)) (ha : PA X (e :: es) t)
    (hst : starEach (e :: es) X.env = (false, eval e X.env) :: starEach es X.env := by rfl)
    (hpl : (backTo pos (starEach es X.env)).any (·.1) = false := by rfl)
    (ht : eval (.Call (.Attribute o m apos) (e :: es) [] pos) X.env = (eval o X.env >>= fun ov => standAt apos.atName >>= fun _ =>
      holding [ov] (getMethod ov m pl) >>= fun g => callWith pos g.1 g.2 (backTo pos (starEach (e :: es) X.env)) (backToKw pos (keywordEach [] X.env))) := by rfl) :
    PE X (.Call (.Attribute o m apos) (e :: es) [] pos) (tMethC C m sp E to t) := by
  constructor
  intro pins s σ H Q I h
  refine PySem.W.methodCall_KW (pl := pl) (thn (he.run pins s σ H _ I h) fun u s1 hh => ?_) ht
  obtain ⟨x, H1, I1, rx, a, dx, fs, ex, ea, l, q⟩ := hh
  subst ex
  cases rx
  refine getmeth_ok I1 ea c hm l ?_
  refine PySem.W.callWith_K (first := [.ref a]) (h₀ := X.base) I.ok.mod.kin hm.kp ?_ hst hpl
  refine thn (ha.run pos pins s1 σ H1 _ I1 q) fun us s2 hq => ?_
  obtain ⟨vs, H2, I2, r, q2⟩ := hq
  exact ⟨I2.kIn, run_fnS (us := .ref a :: us) (vs := .ref a :: vs) F hr hb (hx σ) I2 (.cons rfl r) q2⟩
theorem run_makeE {pins : List (Addr × Obj)} {σ : St} {H : Hp} {s : Shared} {Q : VK} {us : List Value} {vs : List V} (M : Mk X.K C f) (F : FnOk X.prog X.w X.K X.mg X.base CX k f fd ps sp) (hr : Room (k + 1) X.A) (hb : Binds X.K fd ps [])
    (hx : PassesAt CX X σ (E σ)) (I : Inv X pins σ H s) (r : Vals vs us)
    (h : ∀ x dx, H x = none → H dx = none → dx ≠ x → sp (.ref x :: vs) (upd (upd H dx (.own x)) x (.ins C dx [])) (fun v H2 => v = .non ∧ Q (.ref x) H2) (E σ)) :
    wpAny (model X.prog X.w) X.A (call (.ref C) us) (EP X pins σ Q) X.xe s := by
  have n0 := I.hok.fresh (Nat.le_succ s.heap.objs.size)
  have n1 := I.hok.fresh (Nat.le_refl s.heap.objs.size)
  have hq := h _ _ n0 n1 (Nat.ne_of_lt (Nat.lt_succ_self _))
  have J := Inv.made (C := C) I
  have r2 : Vals (V.ref (s.heap.objs.size + 1) :: vs) (Value.ref (s.heap.objs.size + 1) :: us) := .cons rfl r
  have hl : (Value.ref (s.heap.objs.size + 1) :: us).length = ps.length := by
    rw [← r2.length]
    exact F.len _ _ _ _ hq
  have b := hb _ (Value.ref (s.heap.objs.size + 1) :: us) J.kIn (by rw [List.append_nil]; exact hl)
  rw [List.append_nil] at b
  refine wpAny_call (make_map (f := f) I.kIn M.makes M.init (beq_iff_eq.mp M.fn) (codeAny_mono (F.run _ X.stack _ _ ⟨Value.ref (s.heap.objs.size + 1) :: us, []⟩ _ _ _ (E σ) (hr.make C us []) (J.env0.make C us []) b r2 hq) fun z s' w => ?_))
  cases z with
  | error er => exact hx pins _ _ er s' J w
  | ok fl =>
    cases fl with
    | ret u =>
      obtain ⟨v, H', J3, rv, ev, q3⟩ := J.after w
      subst ev
      exact ⟨rv, V.ref (s.heap.objs.size + 1), H', J3, rfl, q3⟩
    | next => exact w.elim
    | brk => exact w.elim
    | cont => exact w.elim
theorem pe_makeE (M : Mk X.K C f) (F : FnOk X.prog X.w X.K X.mg X.base CX k f fd ps sp) (hr : Room (k + 1) X.A) (hg : Gl X x) (hm : X.mg x = some (.ref C)) (hb : Binds X.K fd ps []) (hx : ∀ σ, PassesAt CX X σ (E σ)) (ha : PA X (e :: es) t)
    (hdb : (x == ("__debug__" : Str)) = false := by decide) (he : starEach (e :: es) X.env = (false, eval e X.env) :: starEach es X.env := by rfl)
    (hpl : (backTo pos (starEach es X.env)).any (·.1) = false := by rfl) : PE X (.Call (.Name x p) (e :: es) [] pos) (tMakeE C sp E t) := by
  constructor
  intro pins s σ H Q I h
  refine wpAny_Call_Name_kw (ld_glob I hg hm ?_ hdb)
  refine PySem.W.callWith_K (h₀ := X.base) I.ok.mod.kin M.kp ?_ he hpl
  refine thn (ha.run pos pins s σ H _ I h) fun us s1 hq => ?_
  obtain ⟨vs, H1, I1, r, q⟩ := hq
  exact ⟨I1.kIn, run_makeE M F hr hb (hx σ) I1 r q⟩
end
end YF

/-! more readings that leave the heap as it is, and stores told by their heap -/
namespace YF
open PySem PySem.Spec PyProof.Rows L2
/-- arguments that leave the heap as it is -/
def Ta (ta : TA) (σ : St) (H : Hp) (vs : List V) : Prop := ∀ Q : List V → Hp → Prop, Q vs H → ta σ H Q
/-- a promise kept without a change: v is given back -/
def Gives (sp : Sp) (vs : List V) (H : Hp) (v : V) (E : XK) : Prop := ∀ Q : VK, Q v H → sp vs H Q E
theorem lk_here {k f : Str} {v : V} {r : List (Str × V)} (h : (f == k) = true) : List.lookup f ((k, v) :: r) = some v := by
  rw [List.lookup_cons, h]
theorem lk_on {k f : Str} {v : V} {r : List (Str × V)} (h : (f == k) = false) : List.lookup f ((k, v) :: r) = List.lookup f r := by
  rw [List.lookup_cons, h]
theorem pf_here {k f : Str} {v u : V} {r : List (Str × V)} (h : k = f) : putF f u ((k, v) :: r) = (k, u) :: r := by
  show (if k = f then (k, u) :: r else (k, v) :: putF f u r) = _
  rw [if_pos h]
theorem pf_on {k f : Str} {v u : V} {r : List (Str × V)} (h : ¬ k = f) : putF f u ((k, v) :: r) = (k, v) :: putF f u r := by
  show (if k = f then (k, u) :: r else (k, v) :: putF f u r) = _
  rw [if_neg h]
section
variable {K : PySem.W.Frag} {σ : St} {H : Hp} {ta tb tc te to : TE} {t : TA} {x y z v : V} {i j : Int} {p C dx : Addr} {fs : List (Str × V)} {xs vs : List V} {f m : Str} {sp : Sp} {E : XK}
theorem ta_nil : Ta tNil σ H [] := fun Q q => q
theorem ta_cons (ha : Te te σ H v) (hb : Ta t σ H vs) : Ta (tCons te t) σ H (v :: vs) := fun Q q => ha _ (hb _ q)
theorem te_ixL (ha : Te ta σ H (.ref p)) (hb : Te tb σ H (.int i)) (h : SqL K H p xs) (e : atI xs i = some v) : Te (tOp (rIxL K) ta tb) σ H v := fun Q q => ha _ (hb _ ⟨p, xs, i, v, rfl, rfl, h, e, q⟩)
theorem te_ixT {p : Addr} (ha : Te ta σ H (.ref p)) (hb : Te tb σ H (.int i)) (h : SqT K H p xs) (e : atI xs i = some v) : Te (tOp (rIxT K) ta tb) σ H v := fun Q q => ha _ (hb _ ⟨p, xs, i, v, rfl, rfl, h, e, q⟩)
theorem te_fld (ha : Te ta σ H (.ref p)) (h : H p = some (.ins C dx fs)) (c : Cls K C) (n : NoAttr K C f) (l : fs.lookup f = some v) : Te (tFld K ta f) σ H v := fun Q q => ha _ ⟨p, C, dx, fs, v, rfl, h, c, n, l, q⟩
theorem te_dgetI {kvs : List (Key × V)} (ha : Te ta σ H (.ref p)) (hb : Te tb σ H (.int i)) (h : H p = some (.dK kvs)) (e : valV kvs (.inl i : Key) = some v) : Te (tDGet ta tb) σ H v := fun Q q =>
  ha _ (hb _ ⟨p, v, rfl, by rw [← e]; exact DGet.k (k := (.inl i : Key)) h, q⟩)
theorem te_dgetS {kvs : List (Key × V)} {s : Str} (ha : Te ta σ H (.ref p)) (hb : Te tb σ H (.str s)) (h : H p = some (.dK kvs)) (e : valV kvs (.inr s : Key) = some v) : Te (tDGet ta tb) σ H v := fun Q q =>
  ha _ (hb _ ⟨p, v, rfl, by rw [← e]; exact DGet.k (k := (.inr s : Key)) h, q⟩)
theorem te_dget1I {kvs : List (Key × V)} (ha : Te ta σ H (.ref p)) (hb : Te tb σ H (.int i)) (h : H p = some (.dK kvs)) (d : IsD H p) : Te (tDGet1 ta tb) σ H ((valV kvs (.inl i : Key)).getD .non) := fun Q q =>
  ha _ ⟨p, rfl, d, hb _ ⟨_, DGet.k (k := (.inl i : Key)) h, q⟩⟩
theorem te_dget2I {kvs : List (Key × V)} (ha : Te ta σ H (.ref p)) (hb : Te tb σ H (.int i)) (hc : Te tc σ H z) (h : H p = some (.dK kvs)) (d : IsD H p) : Te (tDGet2 ta tb tc) σ H ((valV kvs (.inl i : Key)).getD z) := fun Q q =>
  ha _ ⟨p, rfl, d, hb _ (hc _ ⟨_, DGet.k (k := (.inl i : Key)) h, q⟩)⟩
theorem te_isN (ha : Te ta σ H x) : Te (tOp (fun x y H Q => y = .non ∧ Q (.bl (decide (x = .non))) H) ta (tC .non)) σ H (.bl (decide (x = .non))) := fun Q q => ha _ ⟨rfl, q⟩
theorem te_notN (ha : Te ta σ H x) : Te (tOp (fun x y H Q => y = .non ∧ Q (.bl (!decide (x = .non))) H) ta (tC .non)) σ H (.bl (!decide (x = .non))) := fun Q q => ha _ ⟨rfl, q⟩
theorem te_int1 (ha : Te ta σ H (.int i)) : Te (tCB (fun xs H Q => (∃ i, xs = [.int i] ∧ Q (.int i) H) ∨ ∃ k, xs = [.bl k] ∧ Q (.int (if k then 1 else 0)) H) (tCons ta tNil)) σ H (.int i) := fun Q q => ha _ (.inl ⟨i, rfl, q⟩)
theorem te_int1b {b : Bool} (ha : Te ta σ H (.bl b)) : Te (tCB (fun xs H Q => (∃ i, xs = [.int i] ∧ Q (.int i) H) ∨ ∃ k, xs = [.bl k] ∧ Q (.int (if k then 1 else 0)) H) (tCons ta tNil)) σ H (.int (if b then 1 else 0)) := fun Q q => ha _ (.inr ⟨b, rfl, q⟩)
theorem te_call (ha : Ta t σ H vs) (g : Gives sp vs H v E) : Te (tCall sp [] E t) σ H v := fun Q q => ha _ (by
  show sp (vs ++ []) H Q E
  rw [List.append_nil]
  exact g Q q)
theorem te_meth (ha : Te to σ H (.ref p)) (h : H p = some (.ins C dx fs)) (l : fs.lookup m = none) (hb : Ta t σ H vs) (g : Gives sp (.ref p :: vs) H v E) : Te (tMeth C m sp [] E to t) σ H v := fun Q q => ha _ ⟨p, dx, fs, rfl, h, l, hb _ (by
  show sp (.ref p :: (vs ++ [])) H Q E
  rw [List.append_nil]
  exact g Q q)⟩
theorem te_andV {a b : Bool} (ha : Te ta σ H (.bl a)) (hb : a = true → Te tb σ H (.bl b)) : Te (tAndV ta tb) σ H (.bl (a && b)) := fun Q q => ha _ ⟨a, rfl, by
  cases a with
  | true => exact hb rfl Q q
  | false => exact q⟩
theorem te_orV {a b : Bool} (ha : Te ta σ H (.bl a)) (hb : a = false → Te tb σ H (.bl b)) : Te (tOrV ta tb) σ H (.bl (a || b)) := fun Q q => ha _ ⟨a, rfl, by
  cases a with
  | true => exact q
  | false => exact hb rfl Q q⟩
theorem te_notV {a : Bool} (ha : Te ta σ H (.bl a)) : Te (tNotV ta) σ H (.bl (!a)) := fun Q q => ha _ ⟨a, rfl, q⟩
theorem tt_true {b : Bool} (h : Te te σ H (.bl b)) : Tt (tTest te) σ H b := tt_test h
variable {D : Ends} {rest : TS}
/-- a[k] = e, a list -/
theorem st_lst {q j : Nat} {k : Int} (h : Te te σ H v) (hp : Te to σ H (.ref p)) (hi : Te ta σ H (.int k)) (e : H p = some (.lst xs)) (hk : ixN xs.length k = some j) (r : rest D σ (upd H p (.lst (xs.set j v)))) :
    tSeq (tAsg te (gSub to ta rSetL)) rest D σ H := h _ (hp _ (hi _ ⟨p, xs, k, j, rfl, rfl, e, hk, r⟩))
theorem st_fld (h : Te te σ H v) (hp : Te to σ H (.ref p)) (e : H p = some (.ins C dx fs)) (c : Cls K C) (n : NoAttr K C f) (l : fs.length < 1000) (r : rest D σ (upd H p (.ins C dx (putF f v fs)))) :
    tSeq (sFld K to te f) rest D σ H := h _ (hp _ ⟨p, C, dx, fs, rfl, e, c, n, l, r⟩)
theorem st_dputI {kvs : List (Key × V)} (h : Te te σ H v) (hp : Te to σ H (.ref p)) (hi : Te ta σ H (.int i)) (e : H p = some (.dK kvs)) (l : kvs.length < sizeLine) (r : D.nx σ (upd H p (.dK (putK kvs (.inl i : Key) v)))) :
    sDPut to ta te D σ H := h _ (hp _ (hi _ ⟨p, _, rfl, DPut.k (k := (.inl i : Key)) e l, r⟩))
theorem st_dputS {kvs : List (Key × V)} {s : Str} (h : Te te σ H v) (hp : Te to σ H (.ref p)) (hi : Te ta σ H (.str s)) (e : H p = some (.dK kvs)) (l : kvs.length < sizeLine) (r : D.nx σ (upd H p (.dK (putK kvs (.inr s : Key) v)))) :
    sDPut to ta te D σ H := h _ (hp _ (hi _ ⟨p, _, rfl, DPut.k (k := (.inr s : Key)) e l, r⟩))
theorem sq_go {t u : TS} (h : t { D with nx := u D } σ H) : tSeq t u D σ H := h
end
end YF

/-! a def within a def that is handed over and called by a parameter's name: its captured cells are told by the heap for as long -/
namespace YF
open PySem PySem.Spec PyProof.Rows L2 NdefX
abbrev Zs := List (Addr × Obj)
/-- the object at c is o -/
def CellH (c : Addr) (o : Obj) : HO := .ext fun h => h.get? c = some o
def addZ (zs : Zs) (H : Hp) : Hp := fun b => match zs.lookup b with
  | some o => some (CellH b o)
  | none => H b
def delZ (zs : Zs) (H : Hp) : Hp := fun b => match zs.lookup b with
  | some _ => none
  | none => H b
def HasZ (zs : Zs) (H : Hp) : Prop := ∀ c o, zs.lookup c = some o → H c = some (CellH c o)
def NoZ (zs : Zs) (H : Hp) : Prop := ∀ c o, zs.lookup c = some o → H c = none
def AtZ (zs : Zs) (h : Heap) : Prop := ∀ c o, zs.lookup c = some o → h.get? c = some o
section
variable {zs : Zs} {H H' : Hp} {b c : Addr} {o : Obj} {u : HO}
theorem addZ_in (h : zs.lookup b = some o) : addZ zs H b = some (CellH b o) := by
  unfold addZ
  rw [h]
theorem addZ_out (h : zs.lookup b = none) : addZ zs H b = H b := by
  unfold addZ
  rw [h]
theorem delZ_in (h : zs.lookup b = some o) : delZ zs H b = none := by
  unfold delZ
  rw [h]
theorem delZ_out (h : zs.lookup b = none) : delZ zs H b = H b := by
  unfold delZ
  rw [h]
theorem look_cases (b : Addr) : (∃ o, zs.lookup b = some o) ∨ zs.lookup b = none := by
  cases e : zs.lookup b with
  | none => exact .inr rfl
  | some o => exact .inl ⟨o, rfl⟩
theorem addZ_del (h : HasZ zs H) : addZ zs (delZ zs H) = H := by
  funext b
  rcases look_cases (zs := zs) b with ⟨o, e⟩ | e
  · rw [addZ_in e, h b o e]
  · rw [addZ_out e, delZ_out e]
theorem delZ_add (h : NoZ zs H) : delZ zs (addZ zs H) = H := by
  funext b
  rcases look_cases (zs := zs) b with ⟨o, e⟩ | e
  · rw [delZ_in e, h b o e]
  · rw [delZ_out e, addZ_out e]
theorem HasZ.add : HasZ zs (addZ zs H) := fun c o e => addZ_in e
theorem NoZ.del : NoZ zs (delZ zs H) := fun c o e => delZ_in e
theorem HasZ.out (h : HasZ zs H) (e : H b = none) : zs.lookup b = none := by
  rcases look_cases (zs := zs) b with ⟨o, q⟩ | q
  · rw [h b o q] at e
    cases e
  · exact q
theorem NoZ.out (h : NoZ zs H) (e : H b = some u) : zs.lookup b = none := by
  rcases look_cases (zs := zs) b with ⟨o, q⟩ | q
  · rw [h b o q] at e
    cases e
  · exact q
/-- an object of another kind stands as it stood -/
theorem addZ_some (h : NoZ zs H) (e : H b = some u) : addZ zs H b = some u := by rw [addZ_out (h.out e)]; exact e
theorem delZ_some (h : HasZ zs H) (e : H b = some u) (n : ∀ o, u ≠ CellH b o) : delZ zs H b = some u := by
  rcases look_cases (zs := zs) b with ⟨o, q⟩ | q
  · rw [h b o q] at e
    exact absurd (Option.some.inj e).symm (n o)
  · rw [delZ_out q]
    exact e
variable {P : Program} {w : World} {h h' B : Heap} {fs : List Addr}
theorem hok_add (k : HOk P w H h) (n : NoZ zs H) (z : AtZ zs h) : HOk P w (addZ zs H) h := fun a u e => by
  rcases look_cases (zs := zs) a with ⟨o, q⟩ | q
  · rw [addZ_in q] at e
    cases e
    exact ⟨z a o q, ⟨o, z a o q⟩, fun h1 h2 g st => st _ g⟩
  · rw [addZ_out q] at e
    exact (k a u e).stay (fun b v _ g => g) (fun b g => addZ_some n g) fun b xs g => addZ_some n g
theorem hok_del (k : HOk P w H h) (n : HasZ zs H) : HOk P w (delZ zs H) h := fun a u e => by
  rcases look_cases (zs := zs) a with ⟨o, q⟩ | q
  · rw [delZ_in q] at e
    cases e
  · rw [delZ_out q] at e
    exact (k a u e).stay (fun b v _ g => g) (fun b g => delZ_some n g fun o z => by cases z) fun b xs g => delZ_some n g fun o z => by cases z
theorem hok_at (k : HOk P w H h) (n : HasZ zs H) : AtZ zs h := fun c o e => (k c _ (n c o e)).1
theorem un_del (u : Un fs [] (addZ zs H) H' h h') (n : NoZ zs H) (z : AtZ zs h) (z' : AtZ zs h') (n' : HasZ zs H') : Un fs [] H (delZ zs H') h h' where
  keep := fun b o e hb hf hx => by
    rcases look_cases (zs := zs) b with ⟨q, g⟩ | g
    · rw [z b q g] at e
      cases e
      exact z' b _ g
    · exact u.keep b o e (by rw [addZ_out g]; exact hb) hf hx
  slot := fun b o e hb hf hx => by
    rcases look_cases (zs := zs) b with ⟨q, g⟩ | g
    · rw [z b q g] at e
      cases e
      exact ⟨o.slots, z' b _ g⟩
    · exact u.slot b o e (by rw [addZ_out g]; exact hb) hf hx
  free := fun b o e hb hx => by
    rcases look_cases (zs := zs) b with ⟨q, g⟩ | g
    · exact delZ_in g
    · rw [delZ_out g]
      exact u.free b o e (by rw [addZ_out g]; exact hb) hx
  there := u.there
  tups := fun b xs e => delZ_some n' (u.tups b xs (addZ_some n e)) fun o q => by cases q
  frzs := fun b o v e => delZ_some n' (u.frzs b o v (addZ_some n e)) fun o q => by cases q
  tbls := fun b ps e => by
    obtain ⟨more, g⟩ := u.tbls b ps (addZ_some n e)
    exact ⟨more, delZ_some n' g fun o q => by cases q⟩
theorem un_no (u : Un fs [] (delZ zs H) H' h h') (z : AtZ zs h) : NoZ zs H' := fun c o e => u.free c o (z c o e) (delZ_in e) (by simp)
theorem un_at (u : Un fs [] (delZ zs H) H' h h') (z : AtZ zs h) (nf : ∀ c o, zs.lookup c = some o → c ∉ fs) : AtZ zs h' := fun c o e => u.keep c o (z c o e) (delZ_in e) (nf c o e) (by simp)
theorem un_add (u : Un fs [] (delZ zs H) H' h h') (n : HasZ zs H) (z : AtZ zs h) : Un fs [] H (addZ zs H') h h' where
  keep := fun b o e hb hf hx => u.keep b o e (by rw [delZ_out (n.out hb)]; exact hb) hf hx
  slot := fun b o e hb hf hx => u.slot b o e (by rw [delZ_out (n.out hb)]; exact hb) hf hx
  free := fun b o e hb hx => by
    rw [addZ_out (n.out hb)]
    exact u.free b o e (by rw [delZ_out (n.out hb)]; exact hb) hx
  there := u.there
  tups := fun b xs e => addZ_some (un_no u z) (u.tups b xs (delZ_some n e fun o q => by cases q))
  frzs := fun b o v e => addZ_some (un_no u z) (u.frzs b o v (delZ_some n e fun o q => by cases q))
  tbls := fun b ps e => by
    obtain ⟨more, g⟩ := u.tbls b ps (delZ_some n e fun o q => by cases q)
    exact ⟨more, addZ_some (un_no u z) g⟩
theorem ub_del (u : UB fs (addZ zs H) H' h B h') (n : NoZ zs H) (z : AtZ zs h) (z' : AtZ zs B) (n' : HasZ zs H') : UB fs H (delZ zs H') h B h' where
  keep := fun b o e hb hf => by
    rcases look_cases (zs := zs) b with ⟨q, g⟩ | g
    · rw [z b q g] at e
      cases e
      exact z' b _ g
    · exact u.keep b o e (by rw [addZ_out g]; exact hb) hf
  slot := u.slot
  free := fun b o e hb => by
    rcases look_cases (zs := zs) b with ⟨q, g⟩ | g
    · exact delZ_in g
    · rw [delZ_out g]
      exact u.free b o e (by rw [addZ_out g]; exact hb)
  there := u.there
  tups := fun b xs e => delZ_some n' (u.tups b xs (addZ_some n e)) fun o q => by cases q
  frzs := fun b o v e => delZ_some n' (u.frzs b o v (addZ_some n e)) fun o q => by cases q
  tbls := fun b ps e => by
    obtain ⟨more, g⟩ := u.tbls b ps (addZ_some n e)
    exact ⟨more, delZ_some n' g fun o q => by cases q⟩
theorem ub_no (u : UB fs (delZ zs H) H' h B h') (z : AtZ zs h) : NoZ zs H' := fun c o e => u.free c o (z c o e) (delZ_in e)
theorem ub_at (u : UB fs (delZ zs H) H' h B h') (z : AtZ zs h) (nf : ∀ c o, zs.lookup c = some o → c ∉ fs) : AtZ zs B := fun c o e => u.keep c o (z c o e) (delZ_in e) (nf c o e)
theorem ub_add (u : UB fs (delZ zs H) H' h B h') (n : HasZ zs H) (z : AtZ zs h) : UB fs H (addZ zs H') h B h' where
  keep := fun b o e hb hf => u.keep b o e (by rw [delZ_out (n.out hb)]; exact hb) hf
  slot := u.slot
  free := fun b o e hb => by
    rw [addZ_out (n.out hb)]
    exact u.free b o e (by rw [delZ_out (n.out hb)]; exact hb)
  there := u.there
  tups := fun b xs e => addZ_some (ub_no u z) (u.tups b xs (delZ_some n e fun o q => by cases q))
  frzs := fun b o v e => addZ_some (ub_no u z) (u.frzs b o v (delZ_some n e fun o q => by cases q))
  tbls := fun b ps e => by
    obtain ⟨more, g⟩ := u.tbls b ps (delZ_some n e fun o q => by cases q)
    exact ⟨more, addZ_some (ub_no u z) g⟩
variable {K : PySem.W.Frag} {mg : Str → Option Value} {base : Heap} {A : Around} {outer : List PySem.Env} {s s' : Shared} {Q : VK} {E : XK} {x : Value}
theorem env_add (e : Env0 P w K mg base A outer s H) (n : NoZ zs H) (z : AtZ zs s.heap) (nf : ∀ c o, zs.lookup c = some o → c ∉ frs outer ∧ base.get? c = none) : Env0 P w K mg base A outer s (addZ zs H) :=
  ⟨e.frames, e.mod, fun b o g => ⟨(e.bs b o g).1, by
    rcases look_cases (zs := zs) b with ⟨q, r⟩ | r
    · rw [(nf b q r).2] at g
      cases g
    · rw [addZ_out r]
      exact (e.bs b o g).2⟩, e.bsz, e.funs, fun b hb => by
    rcases look_cases (zs := zs) b with ⟨q, r⟩ | r
    · exact absurd hb (nf b q r).1
    · rw [addZ_out r]
      exact e.frf b hb, hok_add e.hok n z, e.bare⟩
theorem del_none (e : H b = none) : delZ zs H b = none := by
  rcases look_cases (zs := zs) b with ⟨q, r⟩ | r
  · exact delZ_in r
  · rw [delZ_out r]
    exact e
theorem env_del (e : Env0 P w K mg base A outer s H) (n : HasZ zs H) : Env0 P w K mg base A outer s (delZ zs H) :=
  ⟨e.frames, e.mod, fun b o g => ⟨(e.bs b o g).1, del_none (e.bs b o g).2⟩, e.bsz, e.funs, fun b hb => del_none (e.frf b hb), hok_del e.hok n, e.bare⟩
/-- the cells of a running caller are no frames -/
theorem env_nf (e : Env0 P w K mg base A outer s H) (n : HasZ zs H) : ∀ c o, zs.lookup c = some o → c ∉ frs outer := fun c o q hb => by
  have r := e.frf c hb
  rw [n c o q] at r
  cases r
theorem ce_del (c : CE outer P w (addZ zs H) s (fun v H2 => HasZ zs H2 ∧ Q v (delZ zs H2)) x s') (n : NoZ zs H) (z : AtZ zs s.heap) : CE outer P w H s Q x s' := by
  obtain ⟨v, H', os, bare, un, hok, r, n', q⟩ := c
  exact ⟨v, delZ zs H', os, bare, un_del un n z (hok_at hok n') n', hok_del hok n', r, q⟩
theorem ce_add (c : CE outer P w (delZ zs H) s (fun v H2 => NoZ zs H2 → Q v (addZ zs H2)) x s') (n : HasZ zs H) (z : AtZ zs s.heap) (nf : ∀ c o, zs.lookup c = some o → c ∉ frs outer) : CE outer P w H s Q x s' := by
  obtain ⟨v, H', os, bare, un, hok, r, q⟩ := c
  exact ⟨v, addZ zs H', os, bare, un_add un n z, hok_add hok (un_no un z) (un_at un z nf), r, q (un_no un z)⟩
/-- what a kind of exceptions must bear here -/
structure CXok (CX : CXT) (P : Program) (w : World) : Prop where
  del : ∀ {zs : Zs} {outer : List PySem.Env} {H : Hp} {s s' : Shared} {E : XK} {x : Value}, CX outer (addZ zs H) s (fun c d H2 => HasZ zs H2 ∧ E c d (delZ zs H2)) x s' → NoZ zs H → AtZ zs s.heap → CX outer H s E x s'
  add : ∀ {zs : Zs} {outer : List PySem.Env} {H : Hp} {s s' : Shared} {E : XK} {x : Value}, CX outer (delZ zs H) s (fun c d H2 => NoZ zs H2 → E c d (addZ zs H2)) x s' → HasZ zs H → AtZ zs s.heap → (∀ c o, zs.lookup c = some o → c ∉ frs outer) → CX outer H s E x s'
theorem cxok : CXok (L2.CX P w) P w := by
  refine ⟨fun {zs outer H s s' E x} h n z => ?_, fun {zs outer H s s' E x} h n z nf => ?_⟩
  · obtain ⟨a, B, H', cls, d, e, fl, hok, ub, na, os, ag, n', hE⟩ := h
    exact ⟨a, B, delZ zs H', cls, d, e, fl, hok_del hok n', ub_del ub n z (hok_at hok n') n', del_none na, os, ag, hE⟩
  · obtain ⟨a, B, H', cls, d, e, fl, hok, ub, na, os, ag, hE⟩ := h
    have zB := ub_at ub z nf
    refine ⟨a, B, addZ zs H', cls, d, e, fl, hok_add hok (ub_no ub z) zB, ub_add ub n z, ?_, os, ag, hE (ub_no ub z)⟩
    rcases look_cases (zs := zs) a with ⟨q, r⟩ | r
    · have g := fl.2.1
      rw [zB a q r] at g
      cases g
    · rw [addZ_out r]
      exact na
theorem cxokN : CXok (L2N.CX P w) P w := by
  refine ⟨fun {zs outer H s s' E x} h n z => ?_, fun {zs outer H s s' E x} h n z nf => ?_⟩
  · obtain ⟨a, B, H', cls, d, e, fl, hok, ub, na, os, ag, n', hE⟩ := h
    exact ⟨a, B, delZ zs H', cls, d, e, fl, hok_del hok n', ub_del ub n z (hok_at hok n') n', del_none na, os, ag, hE⟩
  · obtain ⟨a, B, H', cls, d, e, fl, hok, ub, na, os, ag, hE⟩ := h
    have zB := ub_at ub z nf
    refine ⟨a, B, addZ zs H', cls, d, e, fl, hok_add hok (ub_no ub z) zB, ub_add ub n z, ?_, os, ag, hE (ub_no ub z)⟩
    rcases look_cases (zs := zs) a with ⟨q, r⟩ | r
    · have g := fl.2.1
      rw [zB a q r] at g
      cases g
    · rw [addZ_out r]
      exact na
end
end YF

/-! the two calls: a def that is handed a function with cells; a parameter that holds one -/
namespace YF
open PySem PySem.Spec PyProof.Rows L2 NdefX
/-- the objects zs are the captured cells cl; the names fr hold ws -/
structure CapZ (cl : List (Str × Addr)) (fr : List Str) (ws : List (Option V)) (zs : Zs) : Prop where
  len : ws.length = fr.length
  cel : ∀ c o, zs.lookup c = some o → ∃ v, o.data = .cell v
  all : ∀ y c, cl.lookup y = some c → ∃ o, zs.lookup c = some o
  inj : ∀ x y c, cl.lookup x = some c → cl.lookup y = some c → x = y
  has : ∀ (i : Nat) (y : Str), fr[i]? = some y → ∃ c o, cl.lookup y = some c ∧ zs.lookup c = some o ∧ ∀ v, ws[i]? = some (some v) → ∃ u, RelV v u ∧ o.data = .cell (some u)
structure ClOk (P : Program) (w : World) (K : PySem.W.Frag) (mg : Str → Option Value) (base : Heap) (CX : CXT) (k : Nat) (f : Addr) (sp : Sp) : Prop where
  run : ∀ (A : Around) (outer : List PySem.Env) (s : Shared) (H : Hp) (us : List Value) (vs : List V) (Q : VK) (E : XK), Room k A → Env0 P w K mg base A outer s H → Vals vs us → sp vs H Q E →
    codeAny (model P w) A (.call (.ref f) ⟨us, []⟩) (CR CX outer P w H s Q E) s
/-- the promise of a nested def at f, its cells told by the heap -/
def clSp (f : Addr) (F : NF) (fr : List Str) (sp0 : List (Option V) → Sp) : Sp := fun vs H Q E => ∃ (zs : Zs) (ws : List (Option V)), H f = some (FnO f F) ∧ H F.c = some (LamX.CodeO F.c F.qual) ∧ HasZ zs H ∧ CapZ F.cl fr ws zs ∧
  sp0 ws vs (delZ zs H) (fun v H' => NoZ zs H' → Q v (addZ zs H')) fun c d H' => NoZ zs H' → E c d (addZ zs H')
section
variable {P : Program} {w : World} {K : PySem.W.Frag} {mg : Str → Option Value} {base : Heap} {CX : CXT} {k : Nat} {f : Addr} {F : NF} {ps fr : List Str} {sp0 : List (Option V) → Sp} {zs : Zs} {ws : List (Option V)} {H : Hp} {h : Heap} {cl : List (Str × Addr)}
theorem cells_at (c : CapZ cl fr ws zs) (n : HasZ zs H) (k : HOk P w H h) : CellsAt cl fr ws h (delZ zs H) := by
  have z := hok_at k n
  refine ⟨c.len, fun y a e => ?_, c.inj, fun i y e => ?_⟩
  · obtain ⟨o, q⟩ := c.all y a e
    obtain ⟨v, d⟩ := c.cel a o q
    exact ⟨delZ_in q, v, o, z a o q, d⟩
  · obtain ⟨a, o, e1, e2, e3⟩ := c.has i y e
    refine ⟨a, e1, fun v hv => ?_⟩
    obtain ⟨u, r, d⟩ := e3 v hv
    exact ⟨u, r, o, z a o e2, d⟩
theorem not_cell {a : Addr} {φ : Heap → Prop} (c : CapZ cl fr ws zs) (n : HasZ zs H) (k : HOk P w H h) (e : H a = some (.ext φ)) (q : ∀ o, h.get? a = some o → (∃ v, o.data = .cell v) → ¬ φ h) : delZ zs H a = some (.ext φ) := by
  rcases look_cases (zs := zs) a with ⟨o, r⟩ | r
  · have g := hok_at k n a o r
    exact absurd (k a _ e).1 (q o g (c.cel a o r))
  · rw [delZ_out r]
    exact e
theorem clok_of (no : NOk P w K mg base CX k f F ps fr sp0) (cx : CXok CX P w) : ClOk P w K mg base CX k f (clSp f F fr sp0) := by
  refine ⟨fun A outer s H us vs Q E hr e0 r h => ?_⟩
  obtain ⟨zs, ws, hf, hc, n, c, q⟩ := h
  have z := hok_at e0.hok n
  have hf' : delZ zs H f = some (FnO f F) := not_cell c n e0.hok hf fun o g ⟨v, d⟩ ⟨od, sl, doc, pm, ctv, g2⟩ => by
    rw [g] at g2
    cases g2
    cases d
  have hc' : delZ zs H F.c = some (LamX.CodeO F.c F.qual) := not_cell c n e0.hok hc fun o g ⟨v, d⟩ ⟨oc, xs, t, g2, d2, _⟩ => by
    rw [g] at g2
    cases g2
    rw [d] at d2
    cases d2
  refine codeAny_mono (no.run A outer s (delZ zs H) us vs ws _ _ hr (env_del e0 n) hf' hc' (cells_at c n e0.hok) r q) fun y s' hq => ?_
  cases y with
  | error er => exact cx.add hq n z (env_nf e0 n)
  | ok fl =>
    cases fl with
    | ret u => exact ce_add hq n z (env_nf e0 n)
    | next => exact hq.elim
    | brk => exact hq.elim
    | cont => exact hq.elim
end
/-- a call of the name in slot i, which holds a function made elsewhere -/
def tCallP (i : Nat) (S : Addr → Sp → Prop) (E : L2.St → XK) (t : TA) : TE := fun σ H Q => ∃ f F sp, σ[i]? = some (some (.ref f)) ∧ S f sp ∧ H f = some (FnO f F) ∧ t σ H fun vs H1 => H1 f = some (FnO f F) ∧ sp vs H1 Q (E σ)
/-- a call of a def, the cells cl told by the heap meanwhile -/
def tCallC (cl : List (Str × Addr)) (fr : List Str) (js : List Nat) (sp : Sp) (E : L2.St → XK) (t : TA) : TE := fun σ H Q => t σ H fun vs H1 => ∀ zs, CapZ cl fr (js.map (slotAt σ)) zs → NoZ zs H1 →
  sp vs (addZ zs H1) (fun v H2 => HasZ zs H2 ∧ Q v (delZ zs H2)) fun c d H2 => HasZ zs H2 ∧ E σ c d (delZ zs H2)
section
variable {X : Cx} {CX : CXT} {k i : Nat} {f C : Addr} {fd : FuncData} {ps fr : List Str} {cl : List (Str × Addr)} {js : List Nat} {sp : Sp} {S : Addr → Sp → Prop} {E : L2.St → XK} {x : Str} {p pos : Pos} {e : Expr} {es : List Expr} {t : TA}
theorem pe_callP (hS : ∀ f sp, S f sp → ClOk X.prog X.w X.K X.mg X.base CX k f sp) (hr : Room k X.A) (hx : ∀ σ, PassesAt CX X σ (E σ)) (hN : X.N[i]? = some x) (hv : Vis X.env.scope x) (ha : PA X (e :: es) t)
    (hd : (x == ("__debug__" : Str)) = false := by decide) (hcd : (x == ("__classdict__" : Str)) = false := by decide)
    (he : starEach (e :: es) X.env = (false, eval e X.env) :: starEach es X.env := by rfl) (hpl : (backTo pos (starEach es X.env)).any (·.1) = false := by rfl) :
    PE X (.Call (.Name x p) (e :: es) [] pos) (tCallP i S E t) := by
  constructor
  intro pins s σ H Q I h
  obtain ⟨f, F, sp, hs, hSf, hf, ht⟩ := h
  have hload := (pe_var (pos := p) hN hv hd hcd).run pins s σ H (fun v H1 => v = .ref f ∧ H1 = H) I ⟨.ref f, hs, rfl, rfl⟩
  refine wpAny_Call_Name_kw (thn hload fun u s1 hh => ?_)
  obtain ⟨v, H1, I1, r1, ev, eH⟩ := hh
  subst ev
  rw [eH] at I1
  cases r1
  refine PySem.W.callWith_F (first := []) (fnAt_of I1 hf) ?_ he hpl
  refine thn (ha.run pos pins s1 σ H _ I1 ht) fun us s2 hq => ?_
  obtain ⟨vs, H2, I2, r, h1, q⟩ := hq
  refine ⟨fnAt_of I2 h1, ?_⟩
  show wpAny _ _ (call (.ref f) us) _ _ _
  refine wpAny_call (codeAny_mono ((hS f sp hSf).run X.A X.stack s2 H2 us vs Q (E σ) hr I2.env0 r q) fun y s' hy => ?_)
  cases y with
  | error er => exact hx σ pins H2 s2 er s' I2 hy
  | ok fl =>
    cases fl with
    | ret u => exact I2.after hy
    | next => exact hy.elim
    | brk => exact hy.elim
    | cont => exact hy.elim
/-- the objects of cells -/
def cellsOf (cl : List (Str × Addr)) (h : Heap) : Zs := cl.filterMap fun p => if cl.lookup p.1 = some p.2 then (h.get? p.2).map fun o => (p.2, o) else none
theorem cellsOf_mem {h : Heap} {c : Addr} {o : Obj} (m : (c, o) ∈ cellsOf cl h) : h.get? c = some o ∧ ∃ y, cl.lookup y = some c := by
  unfold cellsOf at m
  obtain ⟨q, hq, e⟩ := List.mem_filterMap.mp m
  by_cases b : cl.lookup q.1 = some q.2
  · rw [if_pos b] at e
    obtain ⟨o', g, e2⟩ := Option.map_eq_some_iff.mp e
    cases e2
    exact ⟨g, q.1, b⟩
  · rw [if_neg b] at e
    cases e
theorem look_mem {α : Type} {c : Addr} {o : α} : ∀ {l : List (Addr × α)}, l.lookup c = some o → (c, o) ∈ l
  | [], h => by cases h
  | (b, u) :: r, h => by
    rw [List.lookup_cons] at h
    cases q : (c == b) with
    | true =>
      rw [q] at h
      cases h
      rw [beq_iff_eq.mp q]
      exact List.mem_cons_self
    | false =>
      rw [q] at h
      exact List.mem_cons_of_mem _ (look_mem h)
theorem mem_look {α : Type} {c : Addr} {o : α} : ∀ {l : List (Addr × α)}, (c, o) ∈ l → ∃ o', l.lookup c = some o'
  | [], h => by cases h
  | (b, u) :: r, h => by
    rw [List.lookup_cons]
    cases q : (c == b) with
    | true => exact ⟨_, rfl⟩
    | false =>
      rcases List.mem_cons.mp h with e | e
      · cases e
        simp at q
      · exact mem_look e
theorem str_mem {c : Addr} {y : Str} : ∀ {l : List (Str × Addr)}, l.lookup y = some c → (y, c) ∈ l
  | [], h => by cases h
  | (b, u) :: r, h => by
    rw [List.lookup_cons] at h
    cases q : (y == b) with
    | true =>
      rw [q] at h
      cases h
      rw [beq_iff_eq.mp q]
      exact List.mem_cons_self
    | false =>
      rw [q] at h
      exact List.mem_cons_of_mem _ (str_mem h)
theorem capZ_of {ws : List (Option V)} {h : Heap} {H : Hp} (C : CellsAt cl fr ws h H) : CapZ cl fr ws (cellsOf cl h) ∧ NoZ (cellsOf cl h) H ∧ AtZ (cellsOf cl h) h ∧ ∀ c o, (cellsOf cl h).lookup c = some o → ∃ y, cl.lookup y = some c := by
  have at_ : AtZ (cellsOf cl h) h := fun c o e => (cellsOf_mem (look_mem e)).1
  have nm : ∀ c o, (cellsOf cl h).lookup c = some o → ∃ y, cl.lookup y = some c := fun c o e => (cellsOf_mem (look_mem e)).2
  have all : ∀ y c, cl.lookup y = some c → ∃ o, (cellsOf cl h).lookup c = some o ∧ h.get? c = some o := fun y c e => by
    obtain ⟨_, v, o, g, d⟩ := C.all y c e
    have m : (c, o) ∈ cellsOf cl h := by
      unfold cellsOf
      refine List.mem_filterMap.mpr ⟨(y, c), str_mem e, ?_⟩
      dsimp only
      rw [if_pos e, g]
      rfl
    obtain ⟨o', q⟩ := mem_look m
    exact ⟨o', q, at_ c o' q⟩
  refine ⟨⟨C.len, fun c o e => ?_, fun y c e => ?_, C.inj, fun i y e => ?_⟩, fun c o e => ?_, at_, nm⟩
  · obtain ⟨y, q⟩ := nm c o e
    obtain ⟨_, v, o', g, d⟩ := C.all y c q
    rw [at_ c o e] at g
    cases g
    exact ⟨v, d⟩
  · obtain ⟨o, q, _⟩ := all y c e
    exact ⟨o, q⟩
  · obtain ⟨c, q, r⟩ := C.has i y e
    obtain ⟨o, q2, g⟩ := all y c q
    refine ⟨c, o, q, q2, fun v hv => ?_⟩
    obtain ⟨u, ru, o', g', d⟩ := r v hv
    rw [g] at g'
    cases g'
    exact ⟨u, ru, d⟩
  · obtain ⟨y, q⟩ := nm c o e
    exact (C.all y c q).1
theorem pe_callC (F : FnOk X.prog X.w X.K X.mg X.base CX k f fd ps sp) (cx : CXok CX X.prog X.w) (hfn : ∀ y, X.fn y = true) (cp : X.Ok → Caps X cl fr js) (hr : Room k X.A) (hg : Gl X x) (hm : X.mg x = some (.ref f)) (hk : PySem.W.keepIn X.K (.ref f) = true) (hb : Binds X.K fd ps [])
    (hx : ∀ σ, PassesAt CX X σ (E σ)) (ha : PA X (e :: es) t) (hdb : (x == ("__debug__" : Str)) = false := by decide) (he : starEach (e :: es) X.env = (false, eval e X.env) :: starEach es X.env := by rfl)
    (hpl : (backTo pos (starEach es X.env)).any (·.1) = false := by rfl) : PE X (.Call (.Name x p) (e :: es) [] pos) (tCallC cl fr js sp E t) := by
  constructor
  intro pins s σ H Q I h
  refine wpAny_Call_Name_kw (ld_glob I hg hm ?_ hdb)
  refine PySem.W.callWith_K (h₀ := X.base) I.ok.mod.kin hk ?_ he hpl
  refine thn (ha.run pos pins s σ H _ I h) fun us s1 hq => ?_
  obtain ⟨vs, H1, I1, r, q⟩ := hq
  refine ⟨I1.kIn, ?_⟩
  have cp1 := cp I1.ok
  obtain ⟨c, n, z, nm⟩ := capZ_of (cells_of I1 cp1)
  have q1 := q _ c n
  have nf : ∀ a o, (cellsOf cl s1.heap).lookup a = some o → a ∉ frs X.stack ∧ X.base.get? a = none := fun a o e => by
    obtain ⟨y, hy⟩ := nm a o e
    have hc := cp1.sub y a hy
    have big := I1.ok.cab y a (hfn y) hc
    refine ⟨fun hb => ?_, Heap.get?_none_of_le (Nat.le_trans I1.ok.bsz big)⟩
    rcases List.mem_cons.mp (I1.stkSub a hb) with e1 | e1
    · exact I1.cne y a hc e1
    · obtain ⟨_, o', ho, _⟩ := I1.ok.funs.mem e1
      exact absurd (Nat.lt_of_lt_of_le (Heap.lt_size ho) big) (Nat.lt_irrefl _)
  have hl : us.length = ps.length := by
    rw [← r.length]
    exact F.len _ _ _ _ q1
  have b := hb s1 us I1.kIn (by rw [List.append_nil]; exact hl)
  rw [List.append_nil] at b
  show wpAny _ _ (call (.ref f) us) _ _ _
  refine wpAny_call (codeAny_mono (F.run X.A X.stack s1 (addZ (cellsOf cl s1.heap) H1) ⟨us, []⟩ us vs _ _ hr (env_add I1.env0 n z nf) b r q1) fun y s' hy => ?_)
  cases y with
  | error er => exact hx σ pins H1 s1 er s' I1 (cx.del hy n z)
  | ok fl =>
    cases fl with
    | ret u => exact I1.after (ce_del hy n z)
    | next => exact hy.elim
    | brk => exact hy.elim
    | cont => exact hy.elim
end
end YF

/-! del xs[b:] -/
namespace YF
open PySem PySem.Spec PyProof.Rows L2
/-- of the items numbered from j on those stay whose number is below b -/
theorem stay_below {α : Type} (f : Nat → Bool) (b : Nat) : ∀ (xs : List α) (j : Nat), (∀ k, j ≤ k → k < j + xs.length → f k = decide (b ≤ k)) → (xs.zipIdx j).filterMap (fun p => if f p.2 then none else some p.1) = xs.take (b - j)
  | [], j, _ => by simp
  | x :: r, j, h => by
    have ih := stay_below f b r (j + 1) fun k h1 h2 => h k (by omega) (by simp only [List.length_cons]; omega)
    have h0 := h j (Nat.le_refl _) (by simp only [List.length_cons]; omega)
    rw [List.zipIdx_cons, List.filterMap_cons]
    dsimp only
    rw [h0]
    by_cases e : b ≤ j
    · rw [decide_eq_true e, if_pos rfl, ih, show b - (j + 1) = 0 by omega, show b - j = 0 by omega, List.take_zero, List.take_zero]
    · rw [decide_eq_false e, if_neg (by decide), ih, show b - j = (b - (j + 1)) + 1 by omega, List.take_succ_cons]
section
variable {prog : Program} {w : World} {A : Around} {E : Value → Shared → Prop} {s : Shared}
theorem bounds_from {b n : Nat} (h : b ≤ n) : sliceBounds (some (b : Int)) none none n = ((b : Int), (n : Int), 1) := by
  simp only [sliceBounds, Option.getD_none]
  have h1 : ¬ ((b : Int) < 0) := by omega
  simp only [h1, if_false, show (1 : Int) > 0 by decide, if_true]
  congr 1
  omega
theorem delItem_from {l sl : Addr} {items : List Value} {n : Nat} {vl : Value} {b : Nat} {Q : Unit → Shared → Prop} (e : s.heap.get? l = some { cls := .type "list", data := .seq items.toArray n }) (hs : s.heap.IsSliceOf sl vl .none .none) (pl : IsPart vl (some (b : Int)))
    (hb : b ≤ items.length) (hsz : items.length ≤ sizeLine) (h : ∀ f : Array Value → Array Value, f items.toArray = (items.take b).toArray → Q () { s with heap := s.heap.update l (Obj.mapSeq f) }) :
    wpAny (model prog w) A (delItem (.ref l) (.ref sl)) Q E s := by
  have hl : s.heap.IsList l items.toArray := PySem.IsL.isList e
  obtain ⟨os, hos, hcs, hds⟩ := id hs
  have hTs : s.TypeIs (.ref sl) "slice" := ⟨os, hos, hcs⟩
  have hstep : ¬ ((rawPart none == rawInt 0) = true) := Bool.false_ne_true
  refine wpAny_delItem_slot hl.typeIs (by decide) PySem.F.slot_list_delitem (wpAny_call_entry PySem.F.slot_list_delitem hl.typeIs PySem.F.entry_list_delitem ?_ (PySem.F.args_list_delitem_2 _ _))
  show wpAny _ _ (Builtin.List.listSubscript? (.ref sl) >>= _) _ _ s
  refine wpAny_bind ?_
  unfold Builtin.List.listSubscript?
  refine wpAny_bind (wpAny_specialOf hTs slice_no_index ?_)
  simp only [Option.isNone_none, if_true]
  refine wpAny_pure ?_
  show wpAny _ _ (typeOf (.ref sl) >>= _) _ _ s
  refine wpAny_bind (wpAny_typeOf hTs ?_)
  rw [if_neg (by decide), listSliceParts_eq]
  refine wpAny_bind (wpAny_bind (wpAny_field hos hds (x := .none) rfl (wpAny_bind (wpAny_listPart .none ?_))))
  rw [if_neg hstep]
  refine wpAny_bind (wpAny_field hos hds (x := vl) rfl (wpAny_bind (wpAny_listPart pl ?_)))
  refine wpAny_bind (wpAny_field hos hds (x := .none) rfl (wpAny_bind (wpAny_listPart .none (wpAny_pure ?_))))
  refine wpAny_bind (m := Builtin.List.listItems (.ref l)) ?_
  unfold Builtin.List.listItems
  refine wpAny_bind (wpAny_seqItems e rfl (wpAny_pure ?_))
  refine wpAny_bind (wpAny_of_eq (sliceIndices_raw (some (b : Int)) none none items.toArray.size (by simp)) ?_)
  rw [List.size_toArray, bounds_from hb]
  refine wpAny_bind (wpAny_rule ?_)
  refine wpAny_bind (m := updateSeq l _) (wpAny_updateSeq (hz := by rw [List.size_toArray]; exact hsz) (_hz' := ?_) e rfl ?_)
  · refine wpAny_bind (wpAny_letGo ?_)
    refine wpAny_bind (wpAny_pure (wpAny_pure ⟨.none, rfl, h _ ?_⟩))
    refine congrArg List.toArray ((stay_below _ b items 0 fun k h1 h2 => ?_).trans (by rw [Nat.sub_zero]))
    show (if (1 : Int) > 0 then decide ((b : Int) ≤ (k : Int)) && decide ((k : Int) < (items.length : Int)) && ((k : Int) - (b : Int)) % 1 == 0 else _) = _
    rw [if_pos (by decide)]
    have q1 : decide ((k : Int) < (items.length : Int)) = true := decide_eq_true (by omega)
    have q2 : (((k : Int) - (b : Int)) % 1 == 0) = true := by
      rw [Int.emod_one]
      rfl
    rw [q1, q2, Bool.and_true, Bool.and_true]
    by_cases q : b ≤ k
    · rw [decide_eq_true q, decide_eq_true (by omega)]
    · rw [decide_eq_false q, decide_eq_false (by omega)]
  · rw [List.size_toArray]
    refine Nat.le_trans (List.length_filterMap_le _ _) ?_
    rw [List.length_zipIdx]
    exact Nat.le_succ_of_le hsz
section
variable {X : Cx}
def tDelF (to tl : TE) : TS := fun D σ H => to σ H fun x H1 => tl σ H1 fun y H2 => ∃ (l : Addr) (xs : List V) (b : Nat), x = .ref l ∧ y = .int b ∧ H2 l = some (.lst xs) ∧ b ≤ xs.length ∧ D.nx σ (upd H2 l (.lst (xs.take b)))
theorem ps_delF {o lo : Expr} {to tl : TE} {p2 tpos pos : Pos} (ho : PE X o to) (hl : PE X lo tl) : PS X (.Delete [.Subscript o (.Slice (some lo) none none p2) tpos] pos) (tDelF to tl) := by
  constructor
  intro pins s σ H D I h
  refine wpAny_Delete (wpAny_deleteEach_cons (wpAny_delete_Subscript ?_))
  refine thn (ho.run pins s σ H _ I h) fun u s1 hq => ?_
  obtain ⟨x, H1, I1, rx, q1⟩ := hq
  refine wpAny_Slice ?_
  rw [evalPart_some]
  refine thn (hl.run pins s1 σ H1 _ I1 q1) fun vl s2 hq => ?_
  obtain ⟨y, H2, I2, ry, l, xs, b, ex, ey, hx, hb, q2⟩ := hq
  subst ex ey
  cases rx
  obtain ⟨t, rfl⟩ := ry
  rw [evalPart_none]
  refine wpAny_pure (wpAny_pure ?_)
  have I3 : Inv X pins σ H2 { s2 with heap := s2.heap.push { cls := .type "slice", data := .fields #[.int b t, .none, .none] } } := I2.kept (t' := s2.toks) fun b ob q => Heap.get?_push_of_some _ q
  obtain ⟨z, its, n, r, hn, e⟩ := I3.lstM hx
  refine delItem_from (b := b) e (Heap.IsSliceOf.new ..) (.int _ _) (by omega) (by omega) fun f hf => ?_
  refine wpAny_deleteEach_nil ⟨σ, _, ?_, q2⟩
  refine I3.lset (its' := its.take b) (t' := s2.toks) hx e hf (r.take b) ?_
  rw [List.length_take]
  omega
end
end
end YF

/-! expressions: what one is, what it comes to; a machine that finds it part by part -/
namespace YF
open PySem PySem.Spec PyProof.Rows L2
def InR (n : Int) : Prop := -1000000000 ≤ n ∧ n ≤ 1000000000
instance (n : Int) : Decidable (InR n) := inferInstanceAs (Decidable (_ ∧ _))
inductive Rz where
  | ok (n : Int) | er (r : Str)
  deriving DecidableEq
inductive Ex where
  | num (n : Int) | var (w : Str) (x : D) | cell (x : Str) (a : Ex) | one (w : Str) (a : Ex) | two (w : Str) (a b : Ex)
namespace Ex
def d : Ex → D
  | num n => .tup (.cons (.str "number") (.cons (.int n) .nil))
  | var w x => .tup (.cons (.str w) (.cons x .nil))
  | cell x a => .tup (.cons (.str "cell") (.cons (.str x) (.cons (d a) .nil)))
  | one w a => .tup (.cons (.str w) (.cons (d a) .nil))
  | two w a b => .tup (.cons (.str w) (.cons (d a) (.cons (d b) .nil)))
def parts : Ex → List Ex
  | num _ => []
  | var _ _ => []
  | cell _ a => [a]
  | one _ a => [a]
  | two _ a b => [a, b]
def word : Ex → Str
  | num _ => "number"
  | var w _ => w
  | cell _ _ => "cell"
  | one w _ => w
  | two w _ _ => w
def words1 : List Str := ["not", "negative"]
def words2 : List Str := ["plus", "minus", "times", "over", "rest", "less", "atmost", "same", "and", "or"]
def isLeaf (w : Str) : Prop := w = "local" ∨ w = "slot"
/-- well said -/
def ok : Ex → Prop
  | num _ => True
  | var w x => (w = "local" ∨ w = "slot") ∧ x.isRow = false
  | cell _ a => a.ok
  | one w a => w ∈ words1 ∧ a.ok
  | two w a b => w ∈ words2 ∧ a.ok ∧ b.ok
theorem d_row : ∀ e : Ex, e.d.isRow = false
  | num _ => rfl
  | var _ _ => rfl
  | cell _ _ => rfl
  | one _ _ => rfl
  | two _ _ _ => rfl
end Ex
def b1 (b : Bool) : Int := if b then 1 else 0
def f1 (w : Str) (n : Int) : Int := if w = "not" then b1 (decide (n = 0)) else -n
/-- two operands: none where it is divided by 0 -/
def f2 (w : Str) (a b : Int) : Option Int :=
  if w = "plus" then some (a + b) else if w = "minus" then some (a - b) else if w = "times" then some (a * b) else if w = "less" then some (b1 (decide (a < b))) else if w = "atmost" then some (b1 (decide (a ≤ b)))
  else if w = "same" then some (b1 (decide (a = b))) else if b = 0 then none else if w = "over" then some (Int.fdiv a b) else some (a - b * Int.fdiv a b)
def chk (n : Int) : Rz := if InR n then .ok n else .er "range"
def logic (w : Str) : Prop := w = "and" ∨ w = "or"
instance (w : Str) : Decidable (logic w) := inferInstanceAs (Decidable (_ ∨ _))
/-- no further part is needed -/
def dec (w : Str) (is : List Int) : Bool := if w = "and" then decide (is = [0]) else decide (w = "or") && (decide (is.length = 1) && !decide (is.head? = some 0))
section
variable {S : Type} (lk : S → Ex → List Int → Rz × S)
/-- a part whose needed parts have these values -/
def resE (s : S) : Ex → List Int → Rz × S
  | .num n, _ => (chk n, s)
  | .var w x, is => lk s (.var w x) is
  | .cell x a, is => lk s (.cell x a) is
  | .one w _, is => (chk (f1 w (is.headD 0)), s)
  | .two w _ _, is => if logic w then (.ok (b1 (!decide (is.getLastD 0 = 0))), s) else match f2 w (is.headD 0) (is.getLastD 0) with
    | some n => (chk n, s)
    | none => (.er "zero", s)
def thenE (r : Rz × S) (k : Int → S → Rz × S) : Rz × S := match r with
  | (.ok n, s) => k n s
  | (.er z, s) => (.er z, s)
def ev : S → Ex → Rz × S
  | s, .num n => resE lk s (.num n) []
  | s, .var w x => resE lk s (.var w x) []
  | s, .cell x a => thenE (ev s a) fun i s => resE lk s (.cell x a) [i]
  | s, .one w a => thenE (ev s a) fun i s => resE lk s (.one w a) [i]
  | s, .two w a b => thenE (ev s a) fun i s => if dec w [i] = true then resE lk s (.two w a b) [i] else thenE (ev s b) fun j s => resE lk s (.two w a b) [i, j]
/-- the value of e, of which some parts are known -/
def cont (s : S) : Ex → List Int → Rz × S
  | e, [] => ev lk s e
  | .two w a b, [i] => if dec w [i] = true then resE lk s (.two w a b) [i] else thenE (ev lk s b) fun j s => resE lk s (.two w a b) [i, j]
  | e, is => resE lk s e is
abbrev Fr := Ex × List Int
def plug : List Fr → Int → S → Rz × S
  | [], v, s => (.ok v, s)
  | f :: r, v, s => thenE (cont lk s f.1 (f.2 ++ [v])) fun v s => plug r v s
def fin (s : S) (t : Fr) (below : List Fr) : Rz × S := thenE (cont lk s t.1 t.2) fun v s => plug lk below v s
def needs (e : Ex) (is : List Int) : Bool := decide (is.length < e.parts.length) && !dec e.word is
/-- a step down -/
theorem fin_down {s : S} {e c : Ex} {is : List Int} {below : List Fr} (h : needs e is = true) (hc : e.parts[is.length]? = some c) : fin lk s (c, []) ((e, is) :: below) = fin lk s (e, is) below := by
  unfold needs at h
  simp only [Bool.and_eq_true, decide_eq_true_eq, Bool.not_eq_true'] at h
  obtain ⟨h1, h2⟩ := h
  have key : cont lk s e is = thenE (ev lk s c) fun v s => cont lk s e (is ++ [v]) := by
    cases e with
    | num n => simp [Ex.parts] at h1
    | var w x => simp [Ex.parts] at h1
    | cell x a =>
      have e0 : is = [] := List.length_eq_zero_iff.mp (by simp only [Ex.parts, List.length_cons, List.length_nil] at h1; omega)
      subst e0
      have ec : a = c := Option.some.inj hc
      subst ec
      rfl
    | one w a =>
      have e0 : is = [] := List.length_eq_zero_iff.mp (by simp only [Ex.parts, List.length_cons, List.length_nil] at h1; omega)
      subst e0
      have ec : a = c := Option.some.inj hc
      subst ec
      rfl
    | two w a b =>
      cases is with
      | nil =>
        have ec : a = c := Option.some.inj hc
        subst ec
        rfl
      | cons i r =>
        have e0 : r = [] := List.length_eq_zero_iff.mp (by simp only [Ex.parts, List.length_cons, List.length_nil] at h1; omega)
        subst e0
        have ec : b = c := Option.some.inj hc
        subst ec
        show (if dec w [i] = true then _ else _) = _
        have h2 : dec w [i] = false := h2
        rw [h2, if_neg (by decide)]
        rfl
  show thenE (cont lk s c []) _ = thenE (cont lk s e is) _
  rw [key]
  have e0 : cont lk s c [] = ev lk s c := by cases c <;> rfl
  rw [e0]
  cases ev lk s c with
  | mk r s1 =>
    cases r <;> rfl
theorem dec_nil (w : Str) : dec w [] = false := by
  unfold dec
  by_cases q : w = "and"
  · rw [if_pos q]
    rfl
  · rw [if_neg q]
    simp
/-- a part is done -/
theorem cont_done {s : S} {e : Ex} {is : List Int} (h : needs e is = false) (hl : is.length ≤ e.parts.length) : cont lk s e is = resE lk s e is := by
  have no : ∀ {w : Str} {n : Nat}, (decide (0 < n + 1) && !dec w []) ≠ false := fun {w n} => by
    rw [dec_nil, decide_eq_true (Nat.succ_pos n)]
    decide
  cases e with
  | num n =>
    have e0 : is = [] := List.length_eq_zero_iff.mp (Nat.le_zero.mp hl)
    subst e0
    rfl
  | var w x =>
    have e0 : is = [] := List.length_eq_zero_iff.mp (Nat.le_zero.mp hl)
    subst e0
    rfl
  | cell x a =>
    cases is with
    | nil => exact absurd h (no (n := 0))
    | cons i r => cases r <;> rfl
  | one w a =>
    cases is with
    | nil => exact absurd h (no (n := 0))
    | cons i r => cases r <;> rfl
  | two w a b =>
    cases is with
    | nil => exact absurd h (no (n := 1))
    | cons i r =>
      cases r with
      | nil =>
        have h2 : (!dec w [i]) = false := h
        have h3 : dec w [i] = true := by simpa using h2
        show (if dec w [i] = true then _ else _) = _
        rw [if_pos h3]
      | cons j r => rfl
/-! ### how long it takes -/
def stp : Ex → Nat
  | .num _ => 1
  | .var _ _ => 1
  | .cell _ a => stp a + 2
  | .one _ a => stp a + 2
  | .two _ a b => stp a + stp b + 3
def remN : Ex → Nat → Nat
  | e, 0 => stp e
  | .two _ _ b, 1 => stp b + 2
  | _, _ => 1
theorem stp_pos (e : Ex) : 0 < stp e := by
  cases e <;> simp [stp]
theorem rem_pos (e : Ex) (n : Nat) : 0 < remN e n := by
  cases n with
  | zero => cases e <;> simp [remN, stp]
  | succ n =>
    cases n with
    | zero => cases e <;> simp [remN]
    | succ n => cases e <;> simp [remN]
theorem rem_down {e c : Ex} {n : Nat} (h : e.parts[n]? = some c) : stp c + remN e (n + 1) < remN e n := by
  cases e with
  | num x => cases n <;> simp [Ex.parts] at h
  | var w x => cases n <;> simp [Ex.parts] at h
  | cell x a =>
    cases n with
    | zero =>
      have ec : a = c := Option.some.inj h
      subst ec
      simp [remN, stp]
    | succ n => simp [Ex.parts] at h
  | one w a =>
    cases n with
    | zero =>
      have ec : a = c := Option.some.inj h
      subst ec
      simp [remN, stp]
    | succ n => simp [Ex.parts] at h
  | two w a b =>
    match n, h with
    | 0, h =>
      have ec : a = c := Option.some.inj h
      subst ec
      simp only [remN, stp]
      omega
    | 1, h =>
      have ec : b = c := Option.some.inj h
      subst ec
      simp [remN, stp]
    | n + 2, h => simp [Ex.parts] at h
def left (t : Fr) (below : List Fr) : Nat := remN t.1 t.2.length + (below.map fun f => remN f.1 (f.2.length + 1)).sum
/-- all values known, from the bottom -/
def knowns (t : Fr) (below : List Fr) : List Int := (below.reverse.map (·.2)).flatten ++ t.2
end
end YF

/-! lists that are being written -/
namespace YF
open PySem PySem.Spec PyProof.Rows L2
section
variable {K : PySem.W.Frag}
theorem set_sl {σ σ' : L2.St} {t : TS} {E : Ends} {H : Hp} (e : σ = σ') (h : t E σ' H) : t E σ H := by
  rw [e]
  exact h
theorem te_ixs {σ : L2.St} {H : Hp} {ta tb : TE} {z : Str} {i : Int} {c : Nat} (ha : Te ta σ H (.str z)) (hb : Te tb σ H (.int i)) (h : z.length ≤ sizeLine) (h2 : atI z.cps.toList i = some c) : Te (tOp rIxS ta tb) σ H (.str ⟨#[c]⟩) := fun Q q => ha _ (hb _ ⟨z, i, c, rfl, rfl, h, h2, q⟩)
theorem te_ins {σ : L2.St} {H : Hp} {ta tb : TE} {z : Str} {c : Nat} (ha : Te ta σ H (.str ⟨#[c]⟩)) (hb : Te tb σ H (.str z)) : Te (tOp (fun x y H Q => ∃ (c : Nat) (z : Str), x = .str ⟨#[c]⟩ ∧ y = .str z ∧ Q (.bl (decide (c ∈ z.cps.toList))) H) ta tb) σ H (.bl (decide (c ∈ z.cps.toList))) := fun Q q => ha _ (hb _ ⟨c, z, rfl, rfl, q⟩)
theorem one_eq {c d : Nat} {s : Str} (hs : s = ⟨#[d]⟩) : (V.str ⟨#[c]⟩ = V.str s) ↔ c = d := by
  rw [hs]
  constructor
  · intro h
    have h2 := V.str.inj h
    have h3 := congrArg (fun z : Str => z.cps.toList) h2
    simpa using h3
  · rintro rfl
    rfl
theorem te_cut {σ : L2.St} {H : Hp} {ta tb tc : TE} {z : Str} {i j : Int} (ha : Te ta σ H (.str z)) (hb : Te tb σ H (.int i)) (hc : Te tc σ H (.int j)) (h : z.length ≤ sizeLine) : Te (tSl rSlS ta (tPart tb) (tPart tc)) σ H (.str (cutS z (some i) (some j))) := fun Q q => ha _ (hb _ ⟨i, rfl, hc _ ⟨j, rfl, z, rfl, h, q⟩⟩)
theorem inV_str (t : Str) : ∀ zs : List Str, inV (.str t) (zs.map V.str) = decide (t ∈ zs)
  | [] => by simp [inV]
  | a :: r => by
    have ih := inV_str t r
    simp only [inV, List.map_cons, List.any_cons] at ih ⊢
    rw [ih]
    have e : eqV (.str a) (.str t) = decide (t = a) := by
      show (a == t) = _
      by_cases h : a = t
      · rw [h]
        simp
      · have h2 : ¬ t = a := fun q => h q.symm
        rw [decide_eq_false h2]
        exact beq_eq_false_iff_ne.mpr h
    rw [e]
    simp [List.mem_cons]
theorem all_flat (zs : List Str) : (zs.map V.str).all flatV = true := by
  induction zs with
  | nil => rfl
  | cons a r ih =>
    rw [List.map_cons, List.all_cons, ih]
    rfl
theorem te_inT {σ : L2.St} {H : Hp} {ta tb : TE} {t : Str} {p : Addr} {zs : List Str} (ha : Te ta σ H (.str t)) (hb : Te tb σ H (.ref p)) (h : SqL K H p (zs.map V.str) ∨ SqT K H p (zs.map V.str)) : Te (tOp (rIn K false) ta tb) σ H (.bl (decide (t ∈ zs))) := fun Q q => ha _ (hb _ ⟨p, _, rfl, h, rfl, all_flat zs, by rw [inV_str]; exact q⟩)
/-- x = [..], to be written -/
theorem asg_l0 {X : List Addr} {B H : Hp} {ta : TA} {σ : L2.St} {ds : D} {E : Ends} {rest : TS} {i : Nat} {l : List (V × D)} (h : Eds K X B ta σ ds) (h1 : ds.isRow = true) (h2 : ds.len ≤ 1000) (s : Same B H) (o : Off X B) (j : Ints X H) (e : Env K B l)
    (k : ∀ p vs N H2, Same N H2 → Off X N → Ints X H2 → Env K N l → Rp K N ds vs → N p = none → p ∉ X → H2 p = some (.lst vs) → rest E (σ.set i (some (.ref p))) H2) : tSeq (tAsg (tLst ta) (gName i)) rest E σ H :=
  h B (Same.refl B) H s o j _ fun vs d N H1 g j1 q r => by
    subst q
    have hl : vs.length ≤ 1000 := by rw [Rp.row_len h1 r]; exact h2
    refine ⟨Nat.le_trans hl (by decide), fun p hp => ?_⟩
    have o1 := g.offI o j
    have npx : p ∉ X := fun m => by
      obtain ⟨ns, q⟩ := j1 p m
      rw [hp] at q
      cases q
    refine k p vs N (upd H1 p (.lst vs)) (Same.wr g.nh (g.nh.free hp)) o1 (fun a m => ?_) (e.mono g.bn) r (g.nh.free hp) npx upd_same
    obtain ⟨ns, q⟩ := j1 a m
    exact ⟨ns, Same.upd hp a _ q⟩
/-- x.append(e) to such a list -/
theorem app_go {X : List Addr} {B H : Hp} {te : TE} {σ : L2.St} {d ds : D} {E : Ends} {rest : TS} {i : Nat} {l : List (V × D)} {p : Addr} {vs : List V} (h : Ed K X B te σ d) (hi : σ[i]? = some (some (.ref p))) (hp : H p = some (.lst vs)) (hl : vs.length ≤ 1000) (hB : B p = none) (npx : p ∉ X) (s : Same B H) (o : Off X B) (j : Ints X H) (e : Env K B l) (r : Rp K B ds vs)
    (k : ∀ v N H2, Same N H2 → Off X N → Ints X H2 → Env K N l → Rp K N ds vs → Rp K N d [v] → N p = none → H2 p = some (.lst (vs ++ [v])) → rest E σ H2) : tSeq (tDrop (tBM K "list" rAppend (tVar i) (tCons te tNil))) rest E σ H := by
  refine ⟨_, hi, .inl ⟨rfl, _, SqL.of hp⟩, h.go s o j fun v N H1 g j1 rv => ?_⟩
  have hN : N p = none := by
    cases q : N p with
    | none => rfl
    | some u =>
      rcases g.frs p u q with q2 | q2
      · rw [hB] at q2
        cases q2
      · rw [hp] at q2
        cases q2
  refine ⟨p, vs, v, rfl, rfl, g.keep p _ npx hp, Nat.lt_of_le_of_lt hl (by decide), ?_⟩
  refine k v N _ (Same.wr g.nh hN) (g.offI o j) (fun a m => ?_) (e.mono g.bn) (Rp.mono g.bn r) rv hN upd_same
  obtain ⟨ns, q⟩ := j1 a m
  exact ⟨ns, by rw [upd_ne (fun z => npx (by rw [← z]; exact m))]; exact q⟩
/-- the same, and what was known stands -/
theorem app_go2 {X : List Addr} {B H : Hp} {te : TE} {σ : L2.St} {d ds : D} {E : Ends} {rest : TS} {i : Nat} {p : Addr} {vs : List V} (h : Ed K X B te σ d) (hi : σ[i]? = some (some (.ref p))) (hp : H p = some (.lst vs)) (hl : vs.length ≤ 1000) (hB : B p = none) (npx : p ∉ X) (s : Same B H) (o : Off X B) (j : Ints X H) (r : Rp K B ds vs)
    (k : ∀ v N H2, Same B N → Same N H2 → Off X N → Ints X H2 → Rp K N ds vs → Rp K N d [v] → N p = none → H2 p = some (.lst (vs ++ [v])) → rest E σ H2) : tSeq (tDrop (tBM K "list" rAppend (tVar i) (tCons te tNil))) rest E σ H := by
  refine ⟨_, hi, .inl ⟨rfl, _, SqL.of hp⟩, h.go s o j fun v N H1 g j1 rv => ?_⟩
  have hN : N p = none := by
    cases q : N p with
    | none => rfl
    | some u =>
      rcases g.frs p u q with q2 | q2
      · rw [hB] at q2
        cases q2
      · rw [hp] at q2
        cases q2
  refine ⟨p, vs, v, rfl, rfl, g.keep p _ npx hp, Nat.lt_of_le_of_lt hl (by decide), ?_⟩
  refine k v N _ g.bn (Same.wr g.nh hN) (g.offI o j) (fun a m => ?_) (Rp.mono g.bn r) rv hN upd_same
  obtain ⟨ns, q⟩ := j1 a m
  exact ⟨ns, by rw [upd_ne (fun z => npx (by rw [← z]; exact m))]; exact q⟩
theorem same_know {N H : Hp} {p : Addr} {o : HO} (s : Same N H) (h : H p = some o) : Same (upd N p o) H := fun a u q => by
  by_cases z : a = p
  · subst z
    rw [upd_same] at q
    cases q
    exact h
  · rw [upd_ne z] at q
    exact s a u q
/-- from now on it is known -/
theorem know_go {X : List Addr} {N H : Hp} {l : List (V × D)} {p : Addr} {vs : List V} {ds : D} (s : Same N H) (o : Off X N) (e : Env K N l) (r : Rp K N ds vs) (hl : vs.length ≤ 100000) (hN : N p = none) (npx : p ∉ X) (hp : H p = some (.lst vs)) :
    ∃ N2, Same N2 H ∧ Off X N2 ∧ Env K N2 ((.ref p, .lst ds) :: l) := by
  have s2 : Same N (upd N p (.lst vs)) := Same.upd hN
  refine ⟨upd N p (.lst vs), fun a u q => ?_, fun a m => ?_, (e.mono s2).add ⟨p, vs, rfl, SqL.of upd_same, hl, Rp.mono s2 r⟩⟩
  · by_cases z : a = p
    · subst z
      rw [upd_same] at q
      cases q
      exact hp
    · rw [upd_ne z] at q
      exact s a u q
  · rw [upd_ne (fun z => npx (by rw [← z]; exact m))]
    exact o a m
theorem Rp.snoc {N : Hp} : ∀ {ds : List D} {vs : List V} {d : D} {v : V}, Rp K N (D.row ds) vs → Rp K N d [v] → Rp K N (D.row (ds ++ [d])) (vs ++ [v])
  | [], vs, d, v, h, r => by
    have e : vs = [] := h
    rw [e]
    exact ⟨v, [], rfl, r, rfl⟩
  | a :: t, vs, d, v, ⟨x, xs, e, h1, h2⟩, r => by
    rw [e]
    exact ⟨x, xs ++ [v], rfl, h1, Rp.snoc h2 r⟩
end
end YF

namespace K13
open PySem L2 YF
def topS (i : Nat) : Stmt := PySem.Challenge.pw_handshaker_k13_whole_blocks.main.body.getD i (.Pass ⟨0, 0, 0, 0⟩)
abbrev s_parts_of : Stmt := topS 5
theorem sc_parts_of : FnScope ["expression", "word"] ["expression"] (defScope s_parts_of) := ⟨rfl, rfl, rfl, by decide +kernel, rfl, by decide +kernel, by decide +kernel⟩
abbrev s_is_value : Stmt := topS 10
theorem sc_is_value : FnScope ["value"] ["value"] (defScope s_is_value) := ⟨rfl, rfl, rfl, by decide +kernel, rfl, by decide +kernel, by decide +kernel⟩
abbrev s_cell_number : Stmt := topS 11
theorem sc_cell_number : FnScope ["cells", "name", "index", "ahead", "known", "size", "_"] ["cells", "name", "index"] (defScope s_cell_number) := ⟨rfl, rfl, rfl, by decide +kernel, rfl, by decide +kernel, by decide +kernel⟩
abbrev s_value_with : Stmt := topS 12
theorem sc_value_with : FnScope ["expression", "look", "begun", "known", "part", "many", "inner", "behind", "result"] ["expression", "look"] (defScope s_value_with) := ⟨rfl, rfl, rfl, by decide +kernel, rfl, by decide +kernel, by decide +kernel⟩
abbrev s_is_decided : Stmt := topS 13
theorem sc_is_decided : FnScope ["word", "inner"] ["word", "inner"] (defScope s_is_decided) := ⟨rfl, rfl, rfl, by decide +kernel, rfl, by decide +kernel, by decide +kernel⟩
abbrev s_result : Stmt := topS 14
theorem sc_result : FnScope ["part", "inner", "look", "word", "result"] ["part", "inner", "look"] (defScope s_result) := ⟨rfl, rfl, rfl, by decide +kernel, rfl, by decide +kernel, by decide +kernel⟩
abbrev s_truth : Stmt := topS 15
theorem sc_truth : FnScope ["holds"] ["holds"] (defScope s_truth) := ⟨rfl, rfl, rfl, by decide +kernel, rfl, by decide +kernel, by decide +kernel⟩
abbrev s_of_one : Stmt := topS 16
theorem sc_of_one : FnScope ["word", "only"] ["word", "only"] (defScope s_of_one) := ⟨rfl, rfl, rfl, by decide +kernel, rfl, by decide +kernel, by decide +kernel⟩
abbrev s_of_two : Stmt := topS 17
theorem sc_of_two : FnScope ["word", "first", "second"] ["word", "first", "second"] (defScope s_of_two) := ⟨rfl, rfl, rfl, by decide +kernel, rfl, by decide +kernel, by decide +kernel⟩
abbrev s_Run___init__ : Stmt := inClass (topS 24) 0
theorem sc_Run___init__ : FnScope ["self", "cells", "locals_now", "memory"] ["self", "cells", "locals_now", "memory"] (defScope s_Run___init__) := ⟨rfl, rfl, rfl, by decide +kernel, rfl, by decide +kernel, by decide +kernel⟩
abbrev s_Run_do_list : Stmt := inClass (topS 24) 1
theorem sc_Run_do_list : FnScope ["self", "statements", "statement", "kind"] ["self", "statements"] (defScope s_Run_do_list) := ⟨rfl, rfl, rfl, by decide +kernel, rfl, by decide +kernel, by decide +kernel⟩
abbrev s_Run__do : Stmt := inClass (topS 24) 2
theorem sc_Run__do : FnScope ["self", "statement", "word"] ["self", "statement"] (defScope s_Run__do) := ⟨rfl, rfl, rfl, by decide +kernel, rfl, by decide +kernel, by decide +kernel⟩
abbrev s_Run__put : Stmt := inClass (topS 24) 3
theorem sc_Run__put : FnScope ["self", "statement", "index", "value"] ["self", "statement"] (defScope s_Run__put) := ⟨rfl, rfl, rfl, by decide +kernel, rfl, by decide +kernel, by decide +kernel⟩
abbrev s_Run__repeat : Stmt := inClass (topS 24) 4
theorem sc_Run__repeat : FnScope ["self", "statement", "times", "_", "kind"] ["self", "statement"] (defScope s_Run__repeat) := ⟨rfl, rfl, rfl, by decide +kernel, rfl, by decide +kernel, by decide +kernel⟩
abbrev s_Run__choose : Stmt := inClass (topS 24) 5
theorem sc_Run__choose : FnScope ["self", "statement", "locals_then", "writes_then", "later_then", "kind"] ["self", "statement"] (defScope s_Run__choose) := ⟨rfl, rfl, rfl, by decide +kernel, rfl, by decide +kernel, by decide +kernel⟩
abbrev s_Run__value : Stmt := inClass (topS 24) 6
theorem sc_Run__value : FnScope ["self", "expression", "look"] ["self", "expression"] (defScope s_Run__value) := ⟨rfl, rfl, rfl, by decide +kernel, rfl, by decide +kernel, by decide +kernel⟩
abbrev s_Run__read : Stmt := inClass (topS 24) 7
theorem sc_Run__read : FnScope ["self", "cell"] ["self", "cell"] (defScope s_Run__read) := ⟨rfl, rfl, rfl, by decide +kernel, rfl, by decide +kernel, by decide +kernel⟩
abbrev s_law_mix : Stmt := topS 26
theorem sc_law_mix : FnScope ["number", "k"] ["number", "k"] (defScope s_law_mix) := ⟨rfl, rfl, rfl, by decide +kernel, rfl, by decide +kernel, by decide +kernel⟩
abbrev s_law_numbers : Stmt := topS 27
theorem sc_law_numbers : FnScope ["script", "count", "row", "base", "cell", "rest", "k"] ["script", "count"] (defScope s_law_numbers) := ⟨rfl, rfl, rfl, by decide +kernel, rfl, by decide +kernel, by decide +kernel⟩
abbrev s_law_take : Stmt := topS 28
theorem sc_law_take : FnScope ["row", "bound"] ["row", "bound"] (defScope s_law_take) := ⟨rfl, rfl, rfl, by decide +kernel, rfl, by decide +kernel, by decide +kernel⟩
abbrev s_law_number : Stmt := topS 29
theorem sc_law_number : FnScope ["row", "choice"] ["row"] (defScope s_law_number) := ⟨rfl, rfl, rfl, by decide +kernel, rfl, by decide +kernel, by decide +kernel⟩
abbrev s_law_exp : Stmt := topS 30
theorem sc_law_exp : FnScope ["row", "depth", "cells", "names", "choice", "kinds", "kind", "first"] ["row", "depth", "cells", "names"] (defScope s_law_exp) := ⟨rfl, rfl, rfl, by decide +kernel, rfl, by decide +kernel, by decide +kernel⟩
abbrev s_law_index : Stmt := topS 31
theorem sc_law_index : FnScope ["row", "depth", "cells", "names"] ["row", "depth", "cells", "names"] (defScope s_law_index) := ⟨rfl, rfl, rfl, by decide +kernel, rfl, by decide +kernel, by decide +kernel⟩
abbrev s_law_cells : Stmt := topS 32
theorem sc_law_cells : FnScope [] [] (defScope s_law_cells) := ⟨rfl, rfl, rfl, by decide +kernel, rfl, by decide +kernel, by decide +kernel⟩
abbrev s_law_body : Stmt := topS 39
theorem sc_law_body : FnScope ["row", "depth", "names", "repeats", "body", "k"] ["row", "depth", "names", "repeats"] (defScope s_law_body) := ⟨rfl, rfl, rfl, by decide +kernel, rfl, by decide +kernel, by decide +kernel⟩
abbrev s_law_statement : Stmt := topS 40
theorem sc_law_statement : FnScope ["row", "depth", "names", "repeats", "cells", "choice", "name", "first", "count"] ["row", "depth", "names", "repeats"] (defScope s_law_statement) := ⟨rfl, rfl, rfl, by decide +kernel, rfl, by decide +kernel, by decide +kernel⟩
abbrev s_law_memory : Stmt := topS 41
theorem sc_law_memory : FnScope ["row", "k"] ["row"] (defScope s_law_memory) := ⟨rfl, rfl, rfl, by decide +kernel, rfl, by decide +kernel, by decide +kernel⟩
abbrev s_law : Stmt := topS 48
theorem sc_law : FnScope ["script", "row", "names", "body", "memory", "due", "given", "outcome", "again"] ["script"] (defScope s_law) := ⟨rfl, rfl, rfl, by decide +kernel, rfl, by decide +kernel, by decide +kernel⟩
abbrev s_Fault___init__ : Stmt := inClass (topS 2) 0
theorem sc_Fault___init__ : FnScope ["self", "reason"] ["self", "reason"] (defScope s_Fault___init__) := ⟨rfl, rfl, rfl, by decide +kernel, rfl, by decide +kernel, by decide +kernel⟩
abbrev s_Outcome___init__ : Stmt := inClass (topS 19) 0
theorem sc_Outcome___init__ : FnScope ["self", "kind", "reads", "writes", "finals", "later", "reason"] ["self", "kind", "reads", "writes", "finals", "later", "reason"] (defScope s_Outcome___init__) := ⟨rfl, rfl, rfl, by decide +kernel, rfl, by decide +kernel, by decide +kernel⟩
abbrev s_run_block : Stmt := topS 22
theorem sc_run_block : FnScope ["body", "cells", "locals_now", "memory", "run", "kind", "fault", "finals"] ["body", "cells", "locals_now", "memory"] (defScope s_run_block) := ⟨rfl, rfl, rfl, by decide +kernel, rfl, by decide +kernel, by decide +kernel⟩
abbrev s_without_effect : Stmt := topS 23
theorem sc_without_effect : FnScope ["kind", "reads", "locals_now", "reason", "finals", "_", "value"] ["kind", "reads", "locals_now", "reason"] (defScope s_without_effect) := ⟨rfl, rfl, rfl, by decide +kernel, rfl, by decide +kernel, by decide +kernel⟩
abbrev s_same_outcome : Stmt := topS 20
theorem sc_same_outcome : FnScope ["outcome", "other"] ["outcome", "other"] (defScope s_same_outcome) := ⟨rfl, rfl, rfl, by decide +kernel, rfl, by decide +kernel, by decide +kernel⟩
abbrev s_all_of : Stmt := topS 21
theorem sc_all_of : FnScope ["outcome"] ["outcome"] (defScope s_all_of) := ⟨rfl, rfl, rfl, by decide +kernel, rfl, by decide +kernel, by decide +kernel⟩
abbrev s_law_in_range : Stmt := topS 33
theorem sc_law_in_range : FnScope ["number"] ["number"] (defScope s_law_in_range) := ⟨rfl, rfl, rfl, by decide +kernel, rfl, by decide +kernel, by decide +kernel⟩
abbrev s_law_two : Stmt := topS 34
theorem sc_law_two : FnScope ["kind", "first", "second"] ["kind", "first", "second"] (defScope s_law_two) := ⟨rfl, rfl, rfl, by decide +kernel, rfl, by decide +kernel, by decide +kernel⟩
abbrev s_law_value : Stmt := topS 35
theorem sc_law_value : FnScope ["world", "exp", "kind", "first", "reason", "number", "second"] ["world", "exp"] (defScope s_law_value) := ⟨rfl, rfl, rfl, by decide +kernel, rfl, by decide +kernel, by decide +kernel⟩
abbrev s_law_place : Stmt := topS 36
theorem sc_law_place : FnScope ["cells", "name", "index", "first", "known", "size", "value"] ["cells", "name", "index"] (defScope s_law_place) := ⟨rfl, rfl, rfl, by decide +kernel, rfl, by decide +kernel, by decide +kernel⟩
abbrev s_law_read : Stmt := topS 37
theorem sc_law_read : FnScope ["world", "number"] ["world", "number"] (defScope s_law_read) := ⟨rfl, rfl, rfl, by decide +kernel, rfl, by decide +kernel, by decide +kernel⟩
abbrev s_law_new : Stmt := topS 38
theorem sc_law_new : FnScope ["cells", "names", "memory"] ["cells", "names", "memory"] (defScope s_law_new) := ⟨rfl, rfl, rfl, by decide +kernel, rfl, by decide +kernel, by decide +kernel⟩
abbrev s_law_runs : Stmt := topS 42
theorem sc_law_runs : FnScope ["world", "body", "statement", "end"] ["world", "body"] (defScope s_law_runs) := ⟨rfl, rfl, rfl, by decide +kernel, rfl, by decide +kernel, by decide +kernel⟩
abbrev s_law_run_one : Stmt := topS 43
theorem sc_law_run_one : FnScope ["world", "statement", "kind", "first", "reason", "second", "number", "turn", "end"] ["world", "statement"] (defScope s_law_run_one) := ⟨rfl, rfl, rfl, by decide +kernel, rfl, by decide +kernel, by decide +kernel⟩
abbrev s_law_chosen : Stmt := topS 44
theorem sc_law_chosen : FnScope ["world", "statement", "kept", "end"] ["world", "statement"] (defScope s_law_chosen) := ⟨rfl, rfl, rfl, by decide +kernel, rfl, by decide +kernel, by decide +kernel⟩
abbrev s_law_outcome : Stmt := topS 45
theorem sc_law_outcome : FnScope ["body", "cells", "names", "memory", "world", "kind", "reason", "before", "after", "name", "value"] ["body", "cells", "names", "memory"] (defScope s_law_outcome) := ⟨rfl, rfl, rfl, by decide +kernel, rfl, by decide +kernel, by decide +kernel⟩
abbrev s_law_parts : Stmt := topS 46
theorem sc_law_parts : FnScope ["outcome"] ["outcome"] (defScope s_law_parts) := ⟨rfl, rfl, rfl, by decide +kernel, rfl, by decide +kernel, by decide +kernel⟩
abbrev s_law_other : Stmt := topS 47
theorem sc_law_other : FnScope ["row", "parts", "kind", "reads", "writes", "finals", "later", "reason", "turn"] ["row", "parts"] (defScope s_law_other) := ⟨rfl, rfl, rfl, by decide +kernel, rfl, by decide +kernel, by decide +kernel⟩
structure Adr where
  a_parts_of : Addr
  d_parts_of : FuncData
  a_is_value : Addr
  d_is_value : FuncData
  a_cell_number : Addr
  d_cell_number : FuncData
  a_value_with : Addr
  d_value_with : FuncData
  a__is_decided : Addr
  d__is_decided : FuncData
  a__result : Addr
  d__result : FuncData
  a__truth : Addr
  d__truth : FuncData
  a__of_one : Addr
  d__of_one : FuncData
  a__of_two : Addr
  d__of_two : FuncData
  a_Run___init__ : Addr
  d_Run___init__ : FuncData
  a_Run_do_list : Addr
  d_Run_do_list : FuncData
  a_Run__do : Addr
  d_Run__do : FuncData
  a_Run__put : Addr
  d_Run__put : FuncData
  a_Run__repeat : Addr
  d_Run__repeat : FuncData
  a_Run__choose : Addr
  d_Run__choose : FuncData
  a_Run__value : Addr
  d_Run__value : FuncData
  c_Run__value : Addr
  t_Run__value : Addr
  a_Run__read : Addr
  d_Run__read : FuncData
  a__law_mix : Addr
  d__law_mix : FuncData
  a__law_numbers : Addr
  d__law_numbers : FuncData
  a__law_take : Addr
  d__law_take : FuncData
  a__law_number : Addr
  d__law_number : FuncData
  a__law_exp : Addr
  d__law_exp : FuncData
  a__law_index : Addr
  d__law_index : FuncData
  a__law_cells : Addr
  d__law_cells : FuncData
  a__law_body : Addr
  d__law_body : FuncData
  a__law_statement : Addr
  d__law_statement : FuncData
  a__law_memory : Addr
  d__law_memory : FuncData
  a_law : Addr
  d_law : FuncData
  a_Fault___init__ : Addr
  d_Fault___init__ : FuncData
  a_Outcome___init__ : Addr
  d_Outcome___init__ : FuncData
  a_run_block : Addr
  d_run_block : FuncData
  a__without_effect : Addr
  d__without_effect : FuncData
  a_same_outcome : Addr
  d_same_outcome : FuncData
  a__all_of : Addr
  d__all_of : FuncData
  a__law_in_range : Addr
  d__law_in_range : FuncData
  a__law_two : Addr
  d__law_two : FuncData
  a__law_value : Addr
  d__law_value : FuncData
  a__law_place : Addr
  d__law_place : FuncData
  a__law_read : Addr
  d__law_read : FuncData
  a__law_new : Addr
  d__law_new : FuncData
  a__law_runs : Addr
  d__law_runs : FuncData
  a__law_run_one : Addr
  d__law_run_one : FuncData
  a__law_chosen : Addr
  d__law_chosen : FuncData
  a__law_outcome : Addr
  d__law_outcome : FuncData
  a__law_parts : Addr
  d__law_parts : FuncData
  a__law_other : Addr
  d__law_other : FuncData
  a_LEAVES : Addr
  a_Fault : Addr
  a_Run : Addr
  a_Outcome : Addr
  t_LEAST : Tok
  t_GREATEST : Tok
  t_MOST_TIMES : Tok
structure Txt (K : PySem.W.Frag) (mg : Str → Option Value) (A : Adr) : Prop where
  F_parts_of : Fun K "parts_of" "parts_of" s_parts_of A.a_parts_of A.d_parts_of
  b_parts_of : Binds K A.d_parts_of ["expression"] []
  g_parts_of : mg "parts_of" = some (.ref A.a_parts_of)
  F_is_value : Fun K "is_value" "is_value" s_is_value A.a_is_value A.d_is_value
  b_is_value : Binds K A.d_is_value ["value"] []
  g_is_value : mg "is_value" = some (.ref A.a_is_value)
  F_cell_number : Fun K "cell_number" "cell_number" s_cell_number A.a_cell_number A.d_cell_number
  b_cell_number : Binds K A.d_cell_number ["cells", "name", "index"] []
  g_cell_number : mg "cell_number" = some (.ref A.a_cell_number)
  F_value_with : Fun K "value_with" "value_with" s_value_with A.a_value_with A.d_value_with
  b_value_with : Binds K A.d_value_with ["expression", "look"] []
  g_value_with : mg "value_with" = some (.ref A.a_value_with)
  F__is_decided : Fun K "_is_decided" "_is_decided" s_is_decided A.a__is_decided A.d__is_decided
  b__is_decided : Binds K A.d__is_decided ["word", "inner"] []
  g__is_decided : mg "_is_decided" = some (.ref A.a__is_decided)
  F__result : Fun K "_result" "_result" s_result A.a__result A.d__result
  b__result : Binds K A.d__result ["part", "inner", "look"] []
  g__result : mg "_result" = some (.ref A.a__result)
  F__truth : Fun K "_truth" "_truth" s_truth A.a__truth A.d__truth
  b__truth : Binds K A.d__truth ["holds"] []
  g__truth : mg "_truth" = some (.ref A.a__truth)
  F__of_one : Fun K "_of_one" "_of_one" s_of_one A.a__of_one A.d__of_one
  b__of_one : Binds K A.d__of_one ["word", "only"] []
  g__of_one : mg "_of_one" = some (.ref A.a__of_one)
  F__of_two : Fun K "_of_two" "_of_two" s_of_two A.a__of_two A.d__of_two
  b__of_two : Binds K A.d__of_two ["word", "first", "second"] []
  g__of_two : mg "_of_two" = some (.ref A.a__of_two)
  F_Run___init__ : Fun K "__init__" "Run.__init__" s_Run___init__ A.a_Run___init__ A.d_Run___init__
  b_Run___init__ : Binds K A.d_Run___init__ ["self", "cells", "locals_now", "memory"] []
  mk_Run : Mk K A.a_Run A.a_Run___init__
  F_Run_do_list : Fun K "do_list" "Run.do_list" s_Run_do_list A.a_Run_do_list A.d_Run_do_list
  b_Run_do_list : Binds K A.d_Run_do_list ["self", "statements"] []
  m_Run_do_list : Meth K A.a_Run "do_list" A.a_Run_do_list
  F_Run__do : Fun K "_do" "Run._do" s_Run__do A.a_Run__do A.d_Run__do
  b_Run__do : Binds K A.d_Run__do ["self", "statement"] []
  m_Run__do : Meth K A.a_Run "_do" A.a_Run__do
  F_Run__put : Fun K "_put" "Run._put" s_Run__put A.a_Run__put A.d_Run__put
  b_Run__put : Binds K A.d_Run__put ["self", "statement"] []
  m_Run__put : Meth K A.a_Run "_put" A.a_Run__put
  F_Run__repeat : Fun K "_repeat" "Run._repeat" s_Run__repeat A.a_Run__repeat A.d_Run__repeat
  b_Run__repeat : Binds K A.d_Run__repeat ["self", "statement"] []
  m_Run__repeat : Meth K A.a_Run "_repeat" A.a_Run__repeat
  F_Run__choose : Fun K "_choose" "Run._choose" s_Run__choose A.a_Run__choose A.d_Run__choose
  b_Run__choose : Binds K A.d_Run__choose ["self", "statement"] []
  m_Run__choose : Meth K A.a_Run "_choose" A.a_Run__choose
  L_Run__value : ∃ oc od dV kV doc pm an ct osl, A.d_Run__value = PySem.W.fnOf "_value" "Run._value" (defArgs s_Run__value) (defBody s_Run__value) (defScope s_Run__value) dV kV doc pm an (.ref A.c_Run__value) ct ∧ K.lookup A.a_Run__value = some ⟨oc, od, .func A.d_Run__value, osl⟩
  C_Run__value : PySem.W.codeIn K (.ref A.c_Run__value) "Run._value" = true
  kp_Run__value : PySem.W.keepIn K (.ref A.a_Run__value) = true
  b_Run__value : Binds K A.d_Run__value ["self", "expression"] []
  m_Run__value : Meth K A.a_Run "_value" A.a_Run__value
  F_Run__read : Fun K "_read" "Run._read" s_Run__read A.a_Run__read A.d_Run__read
  b_Run__read : Binds K A.d_Run__read ["self", "cell"] []
  m_Run__read : Meth K A.a_Run "_read" A.a_Run__read
  F__law_mix : Fun K "_law_mix" "_law_mix" s_law_mix A.a__law_mix A.d__law_mix
  b__law_mix : Binds K A.d__law_mix ["number", "k"] []
  g__law_mix : mg "_law_mix" = some (.ref A.a__law_mix)
  F__law_numbers : Fun K "_law_numbers" "_law_numbers" s_law_numbers A.a__law_numbers A.d__law_numbers
  b__law_numbers : Binds K A.d__law_numbers ["script", "count"] []
  g__law_numbers : mg "_law_numbers" = some (.ref A.a__law_numbers)
  F__law_take : Fun K "_law_take" "_law_take" s_law_take A.a__law_take A.d__law_take
  b__law_take : Binds K A.d__law_take ["row", "bound"] []
  g__law_take : mg "_law_take" = some (.ref A.a__law_take)
  F__law_number : Fun K "_law_number" "_law_number" s_law_number A.a__law_number A.d__law_number
  b__law_number : Binds K A.d__law_number ["row"] []
  g__law_number : mg "_law_number" = some (.ref A.a__law_number)
  F__law_exp : Fun K "_law_exp" "_law_exp" s_law_exp A.a__law_exp A.d__law_exp
  b__law_exp : Binds K A.d__law_exp ["row", "depth", "cells", "names"] []
  g__law_exp : mg "_law_exp" = some (.ref A.a__law_exp)
  F__law_index : Fun K "_law_index" "_law_index" s_law_index A.a__law_index A.d__law_index
  b__law_index : Binds K A.d__law_index ["row", "depth", "cells", "names"] []
  g__law_index : mg "_law_index" = some (.ref A.a__law_index)
  F__law_cells : Fun K "_law_cells" "_law_cells" s_law_cells A.a__law_cells A.d__law_cells
  b__law_cells : Binds K A.d__law_cells [] []
  g__law_cells : mg "_law_cells" = some (.ref A.a__law_cells)
  F__law_body : Fun K "_law_body" "_law_body" s_law_body A.a__law_body A.d__law_body
  b__law_body : Binds K A.d__law_body ["row", "depth", "names", "repeats"] []
  g__law_body : mg "_law_body" = some (.ref A.a__law_body)
  F__law_statement : Fun K "_law_statement" "_law_statement" s_law_statement A.a__law_statement A.d__law_statement
  b__law_statement : Binds K A.d__law_statement ["row", "depth", "names", "repeats"] []
  g__law_statement : mg "_law_statement" = some (.ref A.a__law_statement)
  F__law_memory : Fun K "_law_memory" "_law_memory" s_law_memory A.a__law_memory A.d__law_memory
  b__law_memory : Binds K A.d__law_memory ["row"] []
  g__law_memory : mg "_law_memory" = some (.ref A.a__law_memory)
  F_law : Fun K "law" "law" s_law A.a_law A.d_law
  b_law : Binds K A.d_law ["script"] []
  g_law : mg "law" = some (.ref A.a_law)
  F_Fault___init__ : Fun K "__init__" "Fault.__init__" s_Fault___init__ A.a_Fault___init__ A.d_Fault___init__
  b_Fault___init__ : Binds K A.d_Fault___init__ ["self", "reason"] []
  g_Fault : mg "Fault" = some (.ref A.a_Fault)
  Fault_o : OexC K A.a_Fault
  Fault_x : XfC K A.a_Fault
  Fault_i : PySem.W.findIn K (.ref A.a_Fault) "__init__" = some (some (.ref A.a_Fault___init__))
  Fault_t : PySem.W.typeIn K (.ref A.a_Fault___init__) = some (.type "function")
  no_Fault_reason : PySem.W.findIn K (.ref A.a_Fault) "reason" = some none
  K_Outcome___init__ : FunD K "__init__" "Outcome.__init__" (defArgs s_Outcome___init__) (defBody s_Outcome___init__) (defScope s_Outcome___init__) [] [("reason", .non)] A.a_Outcome___init__ A.d_Outcome___init__
  mk_Outcome : Mk K A.a_Outcome A.a_Outcome___init__
  F_run_block : Fun K "run_block" "run_block" s_run_block A.a_run_block A.d_run_block
  b_run_block : Binds K A.d_run_block ["body", "cells", "locals_now", "memory"] []
  g_run_block : mg "run_block" = some (.ref A.a_run_block)
  F__without_effect : Fun K "_without_effect" "_without_effect" s_without_effect A.a__without_effect A.d__without_effect
  b__without_effect : Binds K A.d__without_effect ["kind", "reads", "locals_now", "reason"] []
  g__without_effect : mg "_without_effect" = some (.ref A.a__without_effect)
  F_same_outcome : Fun K "same_outcome" "same_outcome" s_same_outcome A.a_same_outcome A.d_same_outcome
  b_same_outcome : Binds K A.d_same_outcome ["outcome", "other"] []
  g_same_outcome : mg "same_outcome" = some (.ref A.a_same_outcome)
  F__all_of : Fun K "_all_of" "_all_of" s_all_of A.a__all_of A.d__all_of
  b__all_of : Binds K A.d__all_of ["outcome"] []
  g__all_of : mg "_all_of" = some (.ref A.a__all_of)
  F__law_in_range : Fun K "_law_in_range" "_law_in_range" s_law_in_range A.a__law_in_range A.d__law_in_range
  b__law_in_range : Binds K A.d__law_in_range ["number"] []
  g__law_in_range : mg "_law_in_range" = some (.ref A.a__law_in_range)
  F__law_two : Fun K "_law_two" "_law_two" s_law_two A.a__law_two A.d__law_two
  b__law_two : Binds K A.d__law_two ["kind", "first", "second"] []
  g__law_two : mg "_law_two" = some (.ref A.a__law_two)
  F__law_value : Fun K "_law_value" "_law_value" s_law_value A.a__law_value A.d__law_value
  b__law_value : Binds K A.d__law_value ["world", "exp"] []
  g__law_value : mg "_law_value" = some (.ref A.a__law_value)
  F__law_place : Fun K "_law_place" "_law_place" s_law_place A.a__law_place A.d__law_place
  b__law_place : Binds K A.d__law_place ["cells", "name", "index"] []
  g__law_place : mg "_law_place" = some (.ref A.a__law_place)
  F__law_read : Fun K "_law_read" "_law_read" s_law_read A.a__law_read A.d__law_read
  b__law_read : Binds K A.d__law_read ["world", "number"] []
  g__law_read : mg "_law_read" = some (.ref A.a__law_read)
  F__law_new : Fun K "_law_new" "_law_new" s_law_new A.a__law_new A.d__law_new
  b__law_new : Binds K A.d__law_new ["cells", "names", "memory"] []
  g__law_new : mg "_law_new" = some (.ref A.a__law_new)
  F__law_runs : Fun K "_law_runs" "_law_runs" s_law_runs A.a__law_runs A.d__law_runs
  b__law_runs : Binds K A.d__law_runs ["world", "body"] []
  g__law_runs : mg "_law_runs" = some (.ref A.a__law_runs)
  F__law_run_one : Fun K "_law_run_one" "_law_run_one" s_law_run_one A.a__law_run_one A.d__law_run_one
  b__law_run_one : Binds K A.d__law_run_one ["world", "statement"] []
  g__law_run_one : mg "_law_run_one" = some (.ref A.a__law_run_one)
  F__law_chosen : Fun K "_law_chosen" "_law_chosen" s_law_chosen A.a__law_chosen A.d__law_chosen
  b__law_chosen : Binds K A.d__law_chosen ["world", "statement"] []
  g__law_chosen : mg "_law_chosen" = some (.ref A.a__law_chosen)
  F__law_outcome : Fun K "_law_outcome" "_law_outcome" s_law_outcome A.a__law_outcome A.d__law_outcome
  b__law_outcome : Binds K A.d__law_outcome ["body", "cells", "names", "memory"] []
  g__law_outcome : mg "_law_outcome" = some (.ref A.a__law_outcome)
  F__law_parts : Fun K "_law_parts" "_law_parts" s_law_parts A.a__law_parts A.d__law_parts
  b__law_parts : Binds K A.d__law_parts ["outcome"] []
  g__law_parts : mg "_law_parts" = some (.ref A.a__law_parts)
  F__law_other : Fun K "_law_other" "_law_other" s_law_other A.a__law_other A.d__law_other
  b__law_other : Binds K A.d__law_other ["row", "parts"] []
  g__law_other : mg "_law_other" = some (.ref A.a__law_other)
  cl_Run : Cls K A.a_Run
  g_Run : mg "Run" = some (.ref A.a_Run)
  no_Run__cells : NoAttr K A.a_Run "_cells"
  no_Run__memory : NoAttr K A.a_Run "_memory"
  no_Run_locals_now : NoAttr K A.a_Run "locals_now"
  no_Run_reads : NoAttr K A.a_Run "reads"
  no_Run_writes : NoAttr K A.a_Run "writes"
  no_Run_later : NoAttr K A.a_Run "later"
  cl_Outcome : Cls K A.a_Outcome
  g_Outcome : mg "Outcome" = some (.ref A.a_Outcome)
  no_Outcome_kind : NoAttr K A.a_Outcome "kind"
  no_Outcome_reads : NoAttr K A.a_Outcome "reads"
  no_Outcome_writes : NoAttr K A.a_Outcome "writes"
  no_Outcome_finals : NoAttr K A.a_Outcome "finals"
  no_Outcome_later : NoAttr K A.a_Outcome "later"
  no_Outcome_reason : NoAttr K A.a_Outcome "reason"
  g_LEAVES : mg "LEAVES" = some (.ref A.a_LEAVES)
  z_LEAVES : ∀ H, SqT K H A.a_LEAVES [V.str "number", V.str "local", V.str "slot"]
  e_Fault_Fault : PySem.W.exmOne K (.ref A.a_Fault) (.ref A.a_Fault) = some true
  n_len : mg "len" = none
  n_int : mg "int" = none
  n_list : mg "list" = none
  n_range : mg "range" = none
  n_isinstance : mg "isinstance" = none
  n_tuple : mg "tuple" = none
  n_str : mg "str" = none
  n_bool : mg "bool" = none
  n_dict : mg "dict" = none
  g_LEAST : mg "LEAST" = some (.int (-1000000000) A.t_LEAST)
  g_GREATEST : mg "GREATEST" = some (.int 1000000000 A.t_GREATEST)
  g_MOST_TIMES : mg "MOST_TIMES" = some (.int 20 A.t_MOST_TIMES)
section
variable {P : Program} {w : World} {K : PySem.W.Frag} {mg : Str → Option Value} {base : Heap} {A : Adr}
theorem set_sl {σ σ' : L2.St} {t : TS} {E : Ends} {H : Hp} (e : σ = σ') (h : t E σ' H) : t E σ H := by
  rw [e]
  exact h
theorem ite3 {b : Bool} {p q : Prop} (h1 : b = true → p) (h2 : b = false → q) : if b = true then p else q := by
  cases b
  · exact h2 rfl
  · exact h1 rfl
theorem asg_call {σ : L2.St} {H : Hp} {ta : TA} {vs : List V} {sp : Sp} {E : XK} {D : Ends} {rest : TS} {i : Nat} (ha : Ta ta σ H vs) (h : sp vs H (fun v H' => rest D (σ.set i (some v)) H') E) : tSeq (tAsg (tCall sp [] E ta) (gName i)) rest D σ H :=
  ha _ (by
    show sp (vs ++ []) H _ E
    rw [List.append_nil]
    exact h)
theorem te_isi {σ : L2.St} {H : Hp} {te : TE} {x : V} {t : Value} {b : Bool} {ty : String} (hx : TyX K H x t) (hk : PySem.W.kitOne K t (.type ty) = some b) (ha : Te te σ H x) : Te (tCB (rIsi K) (tCons te (tCons (tC (.ty ty)) tNil))) σ H (.bl b) := fun Q q =>
  ha _ ⟨x, .ty ty, t, .type ty, b, rfl, .ty _, hx, hk, q⟩
/-! ### an error -/
def spInit (K : PySem.W.Frag) (C : Addr) : Sp := fun vs H Q _ => ∃ (a : Addr) (r : V), vs = [.ref a, r] ∧ H a = some (exo a C none) ∧
  ∀ (d : Addr) (H' : Hp), H d = none → d ≠ a → H' a = some (exo a C (some d)) → H' d = some (exd d [("reason", r)]) → (∀ b, b ≠ a → b ≠ d → H' b = H b) → Q .non H'
theorem ok_Fault___init__ (T : Txt K mg A) : FnOk P w K mg base CX0 1 A.a_Fault___init__ A.d_Fault___init__ ["self", "reason"] (spInit K A.a_Fault) := by
  refine T.F_Fault___init__.ok sc_Fault___init__ (fun vs H Q E ⟨_, _, e, _⟩ => by rw [e]; rfl) (fun cdv A' outer s H vs Q E hr h => ?_)
  obtain ⟨a, r, rfl, ha, k⟩ := h
  refine ⟨_, pss_one (ps_ost (pv 0) (pv 1)), ?_⟩
  refine ⟨_, rfl, _, rfl, a, _, rfl, T.Fault_o, T.no_Fault_reason, .inl ⟨ha, fun d hd hda => ?_⟩⟩
  refine k d _ hd hda upd_same (by rw [upd_ne hda]; exact upd_same) fun b h1 h2 => ?_
  rw [upd_ne h1, upd_ne h2]
def errF (r : Str) : List (Str × V) := [("reason", .str r)]
theorem raise_go {C : Addr} {ta : TA} {σ : L2.St} {H : Hp} {r : Str} {Q : XK} (hta : ∀ R : List V → Hp → Prop, R [.str r] H → ta σ H R) (k : ∀ d H', Same H H' → H d = none → H' d = some (.xd (errF r)) → Q (.ref C) (some d) H') : tMkO C (spInit K C) [] ta σ H Q := by
  refine hta _ ⟨by show 1 ≤ 1000; decide, fun a ha => ⟨a, .str r, rfl, upd_same, fun d H' hd hne h1 h2 h3 => ⟨rfl, d, _, h1, h2, ?_, ?_⟩⟩⟩
  · rw [← hd, upd_ne hne]
  · have hd' : H d = none := by rw [← hd, upd_ne hne]
    refine k d _ (fun b o q => ?_) hd' upd_same
    have b1 : b ≠ a := fun e => by rw [e, ha] at q; cases q
    have b2 : b ≠ d := fun e => by rw [e, hd'] at q; cases q
    rw [upd_ne b2, del_ne b1, h3 b b1 b2, upd_ne b1]
    exact q
/-! ### numbers, parts -/
def spTruth : Sp := fun vs H Q _ => ∃ b : Bool, vs = [.bl b] ∧ Q (.int (b1 b)) H
theorem ok_truth (T : Txt K mg A) : FnOk P w K mg base CX0 1 A.a__truth A.d__truth ["holds"] spTruth := by
  refine T.F__truth.ok sc_truth (fun vs H Q E ⟨_, e, _⟩ => by rw [e]; rfl) (fun cdv A' outer s H vs Q E hr h => ?_)
  obtain ⟨b, rfl, k⟩ := h
  refine ⟨_, pss_one (ps_ret (pe_ifExp (pt_val (pv 0)) (pe_int) (pe_int))), ?_⟩
  exact ⟨_, rfl, b, rfl, ite3 (fun h => by rw [h] at k; exact k) fun h => by rw [h] at k; exact k⟩
def spOne : Sp := fun vs H Q _ => ∃ (w : Str) (n : Int), vs = [.str w, .int n] ∧ Q (.int (f1 w n)) H
theorem deq_str {a b : Str} : decide (V.str a = V.str b) = decide (a = b) := by
  by_cases h : a = b
  · rw [h]
    simp
  · rw [decide_eq_false h, decide_eq_false fun q => h (V.str.inj q)]
theorem deq_int {a b : Int} : decide (V.int a = V.int b) = decide (a = b) := by
  by_cases h : a = b
  · rw [h]
    simp
  · rw [decide_eq_false h, decide_eq_false fun q => h (V.int.inj q)]
theorem ok_of_one (T : Txt K mg A) : FnOk P w K mg base CX0 2 A.a__of_one A.d__of_one ["word", "only"] spOne := by
  refine T.F__of_one.ok sc_of_one (fun vs H Q E ⟨_, _, e, _⟩ => by rw [e]; rfl) (fun cdv A' outer s H vs Q E hr h => ?_)
  obtain ⟨w, n, rfl, k⟩ := h
  refine ⟨_, pss_cons (ps_if (pt_cmpR op_eq (pv 0) (pe_str) (nomark _))
  (pss_one (ps_ret (pe_call (ok_truth T) (hr.mono (by decide)) rfl T.g__truth T.F__truth.kp T.b__truth .nil pass0 (pa_cons (pe_cmpR op_eq (pv 1) (pe_int) (nomark _)) pa_nil))))
  (pss_nil))
  (pss_one (ps_ret (pe_un un_neg (pv 1)))), ?_⟩
  refine if_seq (tt_test (te_eq (te_var rfl) te_c rfl)) (fun h => ?_) fun h => ?_
  · rw [deq_str] at h
    refine te_eq (te_var rfl) te_c rfl _ ⟨_, rfl, ?_⟩
    unfold f1 at k
    rw [if_pos (of_decide_eq_true h)] at k
    rw [deq_int]
    exact k
  · rw [deq_str] at h
    unfold f1 at k
    rw [if_neg (of_decide_eq_false h)] at k
    exact ⟨_, rfl, _, rfl, k⟩
def spTwo (C : Addr) : Sp := fun vs H Q E => ∃ (w : Str) (a b : Int), vs = [.str w, .int a, .int b] ∧ InR a ∧ InR b ∧ (∀ n, f2 w a b = some n → Q (.int n) H) ∧
  (f2 w a b = none → ∀ d H', Same H H' → H d = none → H' d = some (.xd (errF "zero")) → E (.ref C) (some d) H')
theorem ok_of_two (T : Txt K mg A) : FnOk P w K mg base (L2N.CX P w) 3 A.a__of_two A.d__of_two ["word", "first", "second"] (spTwo A.a_Fault) := by
  refine okN T.F__of_two sc_of_two (fun vs H Q E ⟨_, _, _, e, _⟩ => by rw [e]; rfl) (fun cdv A' outer s H vs Q E hr h => ?_)
  obtain ⟨w, a, b, rfl, ra, rb, k, kz⟩ := h
  refine ⟨_, pss_cons (ps_if (pt_cmpR op_eq (pv 0) (pe_str) (nomark _))
  (pss_one (ps_ret (pe_op op_add (pv 1) (pv 2))))
  (pss_nil))
  (pss_cons (ps_if (pt_cmpR op_eq (pv 0) (pe_str) (nomark _))
  (pss_one (ps_ret (pe_op op_sub (pv 1) (pv 2))))
  (pss_nil))
  (pss_cons (ps_if (pt_cmpR op_eq (pv 0) (pe_str) (nomark _))
  (pss_one (ps_ret (pe_op op_mul (pv 1) (pv 2))))
  (pss_nil))
  (pss_cons (ps_if (pt_cmpR op_eq (pv 0) (pe_str) (nomark _))
  (pss_one (ps_ret (pe_call (ok_truth T) (hr.mono (by decide)) rfl T.g__truth T.F__truth.kp T.b__truth .nil pass0 (pa_cons (pe_cmpR op_lt (pv 1) (pv 2) (nomark _)) pa_nil))))
  (pss_nil))
  (pss_cons (ps_if (pt_cmpR op_eq (pv 0) (pe_str) (nomark _))
  (pss_one (ps_ret (pe_call (ok_truth T) (hr.mono (by decide)) rfl T.g__truth T.F__truth.kp T.b__truth .nil pass0 (pa_cons (pe_cmpR op_le (pv 1) (pv 2) (nomark _)) pa_nil))))
  (pss_nil))
  (pss_cons (ps_if (pt_cmpR op_eq (pv 0) (pe_str) (nomark _))
  (pss_one (ps_ret (pe_call (ok_truth T) (hr.mono (by decide)) rfl T.g__truth T.F__truth.kp T.b__truth .nil pass0 (pa_cons (pe_cmpR op_eq (pv 1) (pv 2) (nomark _)) pa_nil))))
  (pss_nil))
  (pss_cons (ps_if (pt_cmpR op_eq (pv 2) (pe_int) (nomark _))
  (pss_one (L2N.ps_raise rfl (L2N.takes_of rfl rfl rfl rfl) (pmkN_oex T.Fault_o T.Fault_i T.Fault_t (ok_Fault___init__ T) (hr.mono (by decide)) T.b_Fault___init__ pass0 (by exact rfl) T.g_Fault (pa_cons (pe_str) pa_nil))))
  (pss_nil))
  (pss_cons (ps_if (pt_cmpR op_eq (pv 0) (pe_str) (nomark _))
  (pss_one (ps_ret (pe_op op_fdivN (pv 1) (pv 2))))
  (pss_nil))
  (pss_one (ps_ret (pe_op op_sub (pv 1) (pe_op op_mul (pv 2) (pe_op op_fdivN (pv 1) (pv 2))))))))))))), ?_⟩
  unfold f2 at k kz
  refine if_seq (tt_test (te_eq (te_var rfl) te_c rfl)) (fun h => ?_) fun h => ?_
  · rw [deq_str] at h
    rw [if_pos (of_decide_eq_true h)] at k
    exact te_i0 (te_var rfl) (te_var rfl) _ (k _ rfl)
  rw [deq_str] at h
  rw [if_neg (of_decide_eq_false h)] at k kz
  refine if_seq (tt_test (te_eq (te_var rfl) te_c rfl)) (fun h => ?_) fun h => ?_
  · rw [deq_str] at h
    rw [if_pos (of_decide_eq_true h)] at k
    exact te_i0 (te_var rfl) (te_var rfl) _ (k _ rfl)
  rw [deq_str] at h
  rw [if_neg (of_decide_eq_false h)] at k kz
  refine if_seq (tt_test (te_eq (te_var rfl) te_c rfl)) (fun h => ?_) fun h => ?_
  · rw [deq_str] at h
    rw [if_pos (of_decide_eq_true h)] at k
    unfold InR at ra rb
    exact te_i (te_var rfl) (te_var rfl) (show CMul _ _ from .inr ⟨by omega, by omega⟩) _ (k _ rfl)
  rw [deq_str] at h
  rw [if_neg (of_decide_eq_false h)] at k kz
  refine if_seq (tt_test (te_eq (te_var rfl) te_c rfl)) (fun h => ?_) fun h => ?_
  · rw [deq_str] at h
    rw [if_pos (of_decide_eq_true h)] at k
    exact te_i0 (te_var rfl) (te_var rfl) _ ⟨_, rfl, k _ rfl⟩
  rw [deq_str] at h
  rw [if_neg (of_decide_eq_false h)] at k kz
  refine if_seq (tt_test (te_eq (te_var rfl) te_c rfl)) (fun h => ?_) fun h => ?_
  · rw [deq_str] at h
    rw [if_pos (of_decide_eq_true h)] at k
    exact te_i0 (te_var rfl) (te_var rfl) _ ⟨_, rfl, k _ rfl⟩
  rw [deq_str] at h
  rw [if_neg (of_decide_eq_false h)] at k kz
  refine if_seq (tt_test (te_eq (te_var rfl) te_c rfl)) (fun h => ?_) fun h => ?_
  · rw [deq_str] at h
    rw [if_pos (of_decide_eq_true h)] at k
    refine te_eq (te_var rfl) (te_var rfl) rfl _ ⟨_, rfl, ?_⟩
    rw [deq_int]
    exact k _ rfl
  rw [deq_str] at h
  rw [if_neg (of_decide_eq_false h)] at k kz
  refine if_seq (tt_test (te_eq (te_var rfl) te_c rfl)) (fun h => ?_) fun h => ?_
  · rw [deq_int] at h
    rw [if_pos (of_decide_eq_true h)] at kz
    exact raise_go (fun R r => r) (kz rfl)
  rw [deq_int] at h
  rw [if_neg (of_decide_eq_false h)] at k
  have hb := of_decide_eq_false h
  unfold InR at ra rb
  have cd : CDivN a b := ⟨hb, by omega⟩
  refine if_seq (tt_test (te_eq (te_var rfl) te_c rfl)) (fun h => ?_) fun h => ?_
  · rw [deq_str] at h
    rw [if_pos (of_decide_eq_true h)] at k
    exact te_i (te_var rfl) (te_var rfl) cd _ (k _ rfl)
  · rw [deq_str] at h
    rw [if_neg (of_decide_eq_false h)] at k
    refine ⟨_, rfl, _, rfl, te_i (te_var rfl) (te_var rfl) cd _ ⟨_, _, rfl, rfl, .inl ⟨by omega, by omega⟩, _, _, rfl, rfl, k _ rfl⟩⟩
/-- an int, or nothing of that kind -/
def spIsV (K : PySem.W.Frag) : Sp := fun vs H Q _ => ∃ x : V, vs = [x] ∧ ((∃ n : Int, x = .int n ∧ Q (.bl (decide (InR n))) H) ∨
  ((∃ t b, TyX K H x t ∧ PySem.W.kitOne K t (.type "bool") = some b ∧ (b = true ∨ PySem.W.kitOne K t (.type "int") = some false)) ∧ Q (.bl false) H))
theorem ok_is_value (T : Txt K mg A) : FnOk P w K mg base CX0 1 A.a_is_value A.d_is_value ["value"] (spIsV K) := by
  refine T.F_is_value.ok sc_is_value (fun vs H Q E ⟨_, e, _⟩ => by rw [e]; rfl) (fun cdv A' outer s H vs Q E hr h => ?_)
  obtain ⟨x, rfl, k⟩ := h
  refine ⟨_, pss_cons (ps_if (PW.pt (pw_or (pt_val (pe_callB call_isi (by rfl) T.n_isinstance (by decide +kernel) (pa_cons (pv 0) (pa_cons (pe_bltn (v := .ty "bool") (by rfl) T.n_bool (by decide +kernel) rfl) pa_nil)))) (pw_or1 (pt_not (pt_val (pe_callB call_isi (by rfl) T.n_isinstance (by decide +kernel) (pa_cons (pv 0) (pa_cons (pe_bltn (v := .ty "int") (by rfl) T.n_int (by decide +kernel) rfl) pa_nil))))))))
  (pss_one (ps_ret (pe_bl)))
  (pss_nil))
  (pss_one (ps_ret (pe_chain op_le op_le (pe_glob (v := .int (-1000000000)) rfl T.g_LEAST ⟨_, rfl⟩) (pv 0) (pe_glob (v := .int 1000000000) rfl T.g_GREATEST ⟨_, rfl⟩)))), ?_⟩
  rcases k with ⟨n, rfl, k⟩ | ⟨⟨t, b, hx, hb, hi⟩, k⟩
  · have ty : TyX K H (.int n) (.type "int") := .base (.int _)
    refine if_seq (b := false || !true) (tt_or (tt_b (te_isi ty (kit_ty (by decide +kernel)) (te_var rfl))) fun _ => tt_not (tt_b (te_isi ty (kit_ty (by decide +kernel)) (te_var rfl)))) (fun h => nomatch h) fun _ => ?_
    refine ⟨_, rfl, _, _, rfl, rfl, _, rfl, ite3 (fun h1 => ?_) fun h1 => ?_⟩
    · refine ⟨_, _, rfl, rfl, ?_⟩
      have h2 := of_decide_eq_true h1
      rw [show decide (InR n) = decide (n ≤ 1000000000) by unfold InR; simp [h2]] at k
      exact k
    · have h2 := of_decide_eq_false h1
      rw [show decide (InR n) = false by unfold InR; simp [h2]] at k
      exact k
  · cases b with
    | true => exact if_seq (b := true || false) (tt_or (tt_b (te_isi hx hb (te_var rfl))) fun z => nomatch z) (fun _ => ret_te te_c k) fun h => nomatch h
    | false =>
      rcases hi with z | hi
      · cases z
      · exact if_seq (b := false || !false) (tt_or (tt_b (te_isi hx hb (te_var rfl))) fun _ => tt_not (tt_b (te_isi hx hi (te_var rfl)))) (fun _ => ret_te te_c k) fun h => nomatch h
theorem te_isv {σ : L2.St} {H : Hp} {ta : TA} {n : Int} {E : XK} (ha : Ta ta σ H [.int n]) : Te (tCall (spIsV K) [] E ta) σ H (.bl (decide (InR n))) := te_call ha fun Q q => ⟨_, rfl, .inl ⟨n, rfl, q⟩⟩
theorem te_truth {σ : L2.St} {H : Hp} {ta : TA} {b : Bool} {E : XK} (ha : Ta ta σ H [.bl b]) : Te (tCall spTruth [] E ta) σ H (.int (b1 b)) := te_call ha fun Q q => ⟨b, rfl, q⟩
/-- the trees of the parts -/
def partsD (e : Ex) : D := D.row (e.parts.map Ex.d)
def spParts (K : PySem.W.Frag) : Sp := fun vs H Q _ => ∃ (B : Hp) (v : V) (e : Ex), vs = [v] ∧ Same B H ∧ Rp K B e.d [v] ∧ e.ok ∧ ∀ a xs, H a = none → Rp K B (partsD e) xs → Q (.ref a) (upd H a (.tup xs))
theorem rp_tup {B : Hp} {ds : D} {v : V} (h : Rp K B (.tup ds) [v]) : ∃ a xs, v = .ref a ∧ SqT K B a xs ∧ xs.length ≤ 100000 ∧ Rp K B ds xs := by
  obtain ⟨a, xs, e, h1, h2, h3⟩ := h
  exact ⟨a, xs, (List.cons.inj e).1, h1, h2, h3⟩
theorem rp_cons {B : Hp} {d ds : D} {xs : List V} (h : Rp K B (.cons d ds) xs) : ∃ x r, xs = x :: r ∧ Rp K B d [x] ∧ Rp K B ds r := h
/-- its word, its further items -/
theorem ex_at {B : Hp} {e : Ex} {v : V} (h : Rp K B e.d [v]) : ∃ a r ds, v = .ref a ∧ SqT K B a (.str e.word :: r) ∧ (r.length ≤ 1000) ∧ Rp K B ds r ∧ e.d = .tup (.cons (.str e.word) ds) := by
  cases e with
  | num n =>
    obtain ⟨a, xs, rfl, h1, h2, h3⟩ := rp_tup h
    obtain ⟨x, r, rfl, q1, q2⟩ := rp_cons h3
    obtain ⟨y, r2, rfl, q3, q4⟩ := rp_cons q2
    cases q1
    cases q4
    exact ⟨a, _, _, rfl, h1, by show 1 ≤ 1000; decide, q2, rfl⟩
  | var w x =>
    obtain ⟨a, xs, rfl, h1, h2, h3⟩ := rp_tup h
    obtain ⟨x, r, rfl, q1, q2⟩ := rp_cons h3
    obtain ⟨y, r2, rfl, q3, q4⟩ := rp_cons q2
    cases q1
    cases q4
    exact ⟨a, _, _, rfl, h1, by show 1 ≤ 1000; decide, q2, rfl⟩
  | cell x a =>
    obtain ⟨a, xs, rfl, h1, h2, h3⟩ := rp_tup h
    obtain ⟨x, r, rfl, q1, q2⟩ := rp_cons h3
    obtain ⟨y, r2, rfl, q3, q4⟩ := rp_cons q2
    obtain ⟨z, r3, rfl, q5, q6⟩ := rp_cons q4
    cases q1
    cases q6
    exact ⟨a, _, _, rfl, h1, by show 2 ≤ 1000; decide, q2, rfl⟩
  | one w a =>
    obtain ⟨a, xs, rfl, h1, h2, h3⟩ := rp_tup h
    obtain ⟨x, r, rfl, q1, q2⟩ := rp_cons h3
    obtain ⟨y, r2, rfl, q3, q4⟩ := rp_cons q2
    cases q1
    cases q4
    exact ⟨a, _, _, rfl, h1, by show 1 ≤ 1000; decide, q2, rfl⟩
  | two w a b =>
    obtain ⟨a, xs, rfl, h1, h2, h3⟩ := rp_tup h
    obtain ⟨x, r, rfl, q1, q2⟩ := rp_cons h3
    obtain ⟨y, r2, rfl, q3, q4⟩ := rp_cons q2
    obtain ⟨z, r3, rfl, q5, q6⟩ := rp_cons q4
    cases q1
    cases q6
    exact ⟨a, _, _, rfl, h1, by show 2 ≤ 1000; decide, q2, rfl⟩
theorem te_word {σ : L2.St} {B H : Hp} {e : Ex} {v : V} {te : TE} (h : Rp K B e.d [v]) (s : Same B H) (ha : Te te σ H v) : Te (tOp (rIxT K) te (tC (.int 0))) σ H (.str e.word) := by
  obtain ⟨a, r, ds, rfl, h1, _, _, _⟩ := ex_at h
  exact te_ixT ha te_c (Same.sqT s h1) (atI_nat (j := 0) rfl)
theorem w1_no : ∀ w ∈ Ex.words1, w ∉ (["number", "local", "slot"] : List Str) ∧ w ≠ "cell" := by decide +kernel
theorem w2_no : ∀ w ∈ Ex.words2, w ∉ (["number", "local", "slot"] : List Str) ∧ w ≠ "cell" := by decide +kernel
theorem cut1 {x : V} {r : List V} : cutV (x :: r) (some 1) none = r ∧ ¬ (HT.sIx (x :: r).length 0 (some 1) = 0 ∧ HT.sIx (x :: r).length (x :: r).length none = (x :: r).length) := by
  have e1 : HT.sIx (x :: r).length 0 (some 1) = 1 := by
    unfold HT.sIx
    simp only [List.length_cons]
    rw [if_neg (by decide)]
    omega
  have e2 : HT.sIx (x :: r).length (x :: r).length none = (x :: r).length := rfl
  refine ⟨?_, fun h => by rw [e1] at h; exact absurd h.1 (by decide)⟩
  unfold cutV
  rw [e1, e2]
  simp
theorem cut2 {x y : V} {r : List V} : cutV (x :: y :: r) (some 2) none = r ∧ ¬ (HT.sIx (x :: y :: r).length 0 (some 2) = 0 ∧ HT.sIx (x :: y :: r).length (x :: y :: r).length none = (x :: y :: r).length) := by
  have e1 : HT.sIx (x :: y :: r).length 0 (some 2) = 2 := by
    unfold HT.sIx
    simp only [List.length_cons]
    rw [if_neg (by decide)]
    omega
  have e2 : HT.sIx (x :: y :: r).length (x :: y :: r).length none = (x :: y :: r).length := rfl
  refine ⟨?_, fun h => by rw [e1] at h; exact absurd h.1 (by decide)⟩
  unfold cutV
  rw [e1, e2]
  simp
theorem ok_parts_of (T : Txt K mg A) : FnOk P w K mg base CX0 1 A.a_parts_of A.d_parts_of ["expression"] (spParts K) := by
  refine T.F_parts_of.ok sc_parts_of (fun vs H Q E ⟨_, _, _, e, _⟩ => by rw [e]; rfl) (fun cdv A' outer s H vs Q E hr h => ?_)
  obtain ⟨B, v, e, rfl, s1, r, ok, k⟩ := h
  refine ⟨_, pss_cons (ps_set (i := 1) sc_parts_of.nd rfl (Or.inl rfl) (pe_ix ix_tup (pv 0) (pe_int) (fun _ _ => rfl)))
  (pss_cons (ps_if (pt_cmpR op_in_seq (pv 1) (pe_glob (v := .ref A.a_LEAVES) rfl T.g_LEAVES rfl) (by rfl))
  (pss_one (ps_ret (pe_tup pa_nil)))
  (pss_nil))
  (pss_cons (ps_if (pt_cmpR op_eq (pv 1) (pe_str) (nomark _))
  (pss_one (ps_ret (pe_slice sl_tupA (pv 0) (po_some (pe_int)) (po_none))))
  (pss_nil))
  (pss_one (ps_ret (pe_slice sl_tupA (pv 0) (po_some (pe_int)) (po_none)))))), ?_⟩
  refine asg_te (te_word r s1 (te_var rfl)) ?_
  refine set_sl (σ' := [some v, some (.str e.word)]) rfl ?_
  have rest : ∀ (a : Addr) (r : List V) (_ : D), e.word ∉ (["number", "local", "slot"] : List Str) → e.word ≠ "cell" → v = .ref a → SqT K B a (.str e.word :: r) → Rp K B (partsD e) r →
      tSeq (tIfS (tTest (tOp (rIn K false) (tVar 1) (tC (.ref A.a_LEAVES)))) (tRet (tTup tNil)) tNext) (tSeq (tIfS (tTest (tOp rEq (tVar 1) (tC (.str "cell")))) (tRet (tSl (rSlA K) (tVar 0) (tPart (tC (.int 2))) tNoPart)) tNext) (tRet (tSl (rSlA K) (tVar 0) (tPart (tC (.int 1))) tNoPart))) { nx := fun _ H' => Q V.non H', rt := Q } [some v, some (.str e.word)] H := by
    intro a rr ds h1 h2 ev h3 h4
    subst ev
    refine if_seq (tt_test (te_inT (zs := ["number", "local", "slot"]) (te_var rfl) te_c (.inr (T.z_LEAVES H)))) (fun h => absurd (of_decide_eq_true h) h1) fun _ => ?_
    refine if_seq (tt_test (te_eq (te_var rfl) te_c rfl)) (fun h => absurd (V.str.inj (of_decide_eq_true h)) h2) fun _ => ?_
    refine ⟨_, rfl, _, rfl, a, _, rfl, Same.sqT s1 h3, fun z => absurd z cut1.2, fun _ p hp => ?_⟩
    rw [cut1.1]
    exact k p rr hp h4
  have leaf : e.word ∈ (["number", "local", "slot"] : List Str) → e.parts = [] → tSeq (tIfS (tTest (tOp (rIn K false) (tVar 1) (tC (.ref A.a_LEAVES)))) (tRet (tTup tNil)) tNext) (tSeq (tIfS (tTest (tOp rEq (tVar 1) (tC (.str "cell")))) (tRet (tSl (rSlA K) (tVar 0) (tPart (tC (.int 2))) tNoPart)) tNext) (tRet (tSl (rSlA K) (tVar 0) (tPart (tC (.int 1))) tNoPart))) { nx := fun _ H' => Q V.non H', rt := Q } [some v, some (.str e.word)] H := by
    intro h1 h2
    refine if_seq (tt_test (te_inT (zs := ["number", "local", "slot"]) (te_var rfl) te_c (.inr (T.z_LEAVES H)))) (fun _ => ?_) fun h => absurd h1 (of_decide_eq_false h)
    refine ⟨by show 0 ≤ sizeLine; exact Nat.zero_le _, fun p hp => k p [] hp ?_⟩
    unfold partsD
    rw [h2]
    rfl
  cases e with
  | num n => exact leaf (by show ("number" : Str) ∈ _; decide +kernel) rfl
  | var w x =>
    refine leaf ?_ rfl
    show w ∈ _
    rcases ok.1 with z | z
    · rw [z]
      decide +kernel
    · rw [z]
      decide +kernel
  | cell x a =>
    obtain ⟨a', xs, rfl, h1, h2, h3⟩ := rp_tup r
    obtain ⟨x1, r1, rfl, q1, q2⟩ := rp_cons h3
    obtain ⟨y, r2, rfl, q3, q4⟩ := rp_cons q2
    refine if_seq (tt_test (te_inT (zs := ["number", "local", "slot"]) (te_var rfl) te_c (.inr (T.z_LEAVES H)))) (fun h => absurd (of_decide_eq_true h) (by show ("cell" : Str) ∉ _; decide +kernel)) fun _ => ?_
    refine if_seq (tt_test (te_eq (te_var rfl) te_c rfl)) (fun _ => ?_) fun h => absurd rfl (of_decide_eq_false h)
    refine ⟨_, rfl, _, rfl, a', _, rfl, Same.sqT s1 h1, fun z => absurd z cut2.2, fun _ p hp => ?_⟩
    rw [cut2.1]
    exact k p r2 hp q4
  | one w a =>
    obtain ⟨a', xs, rfl, h1, h2, h3⟩ := rp_tup r
    obtain ⟨x1, r1, rfl, q1, q2⟩ := rp_cons h3
    cases q1
    exact rest a' r1 .nil (w1_no w ok.1).1 (w1_no w ok.1).2 rfl h1 q2
  | two w a b =>
    obtain ⟨a', xs, rfl, h1, h2, h3⟩ := rp_tup r
    obtain ⟨x1, r1, rfl, q1, q2⟩ := rp_cons h3
    cases q1
    exact rest a' r1 .nil (w2_no w ok.1).1 (w2_no w ok.1).2 rfl h1 q2
end
end K13

namespace K13
open PySem L2 YF
/-- nothing that stood is otherwise, but at X -/
def FrX (X : List Addr) (H H' : Hp) : Prop := ∀ b o, H b = some o → b ∉ X → H' b = some o
theorem FrX.refl {X : List Addr} {H : Hp} : FrX X H H := fun _ _ e _ => e
theorem FrX.trans {X : List Addr} {H H1 H2 : Hp} (a : FrX X H H1) (b : FrX X H1 H2) : FrX X H H2 := fun c o e n => b c o (a c o e n) n
theorem FrX.same {X : List Addr} {H H1 : Hp} (a : Same H H1) : FrX X H H1 := fun c o e _ => a c o e
/-- what gives the values of the leaves: its state, where it writes, how it lies in the heap -/
structure Look (S : Type) where
  X : List Addr
  J : S → Hp → Prop
  lk : S → Ex → List Int → Rz × S
  okL : Ex → Prop
structure LookOk {S : Type} (K : PySem.W.Frag) (C : Addr) (B H0 : Hp) (L : Look S) (f : Addr) (spf : Sp) : Prop where
  fno : ∀ s H, L.J s H → ∃ F, H f = some (NdefX.FnO f F)
  stab : ∀ s H H', L.J s H → (∀ b, H0 b ≠ none → H' b = H b) → L.J s H'
  dom : ∀ x ∈ L.X, H0 x ≠ none
  off : ∀ x ∈ L.X, B x = none
  rng : ∀ s e is n s', L.okL e → L.lk s e is = (.ok n, s') → InR n
  run : ∀ s e is v p H Q E, L.J s H → L.okL e → e.ok → Rp K B e.d [v] → Same B H → H p = some (.lst (is.map V.int)) → (∀ i ∈ is, InR i) → is.length = e.parts.length →
    (∀ n s' H', L.lk s e is = (.ok n, s') → L.J s' H' → FrX L.X H H' → Q (.int n) H') →
    (∀ r s' d H', L.lk s e is = (.er r, s') → L.J s' H' → FrX L.X H H' → H d = none → H' d = some (.xd (errF r)) → E (.ref C) (some d) H') → spf [v, .ref p] H Q E
/-- the leaves of e are such -/
def okEx (okL : Ex → Prop) : Ex → Prop
  | .num _ => True
  | .var w x => okL (.var w x)
  | .cell x a => okL (.cell x a) ∧ okEx okL a
  | .one _ a => okEx okL a
  | .two _ a b => okEx okL a ∧ okEx okL b
section
variable {P : Program} {w : World} {K : PySem.W.Frag} {mg : Str → Option Value} {base : Heap} {A : Adr}
theorem te_neg {σ : L2.St} {H : Hp} {ta : TE} {i : Int} (ha : Te ta σ H (.int i)) : Te (tUn (fun x H Q => ∃ i, x = .int i ∧ Q (.int (-i)) H) ta) σ H (.int (-i)) := fun Q q => ha _ ⟨i, rfl, q⟩
/-! ### is a value decided -/
theorem dp_ints {H : Hp} : ∀ {is : List Int}, DpAll K H (is.map V.int) (is.map PyData.int)
  | [] => .nil
  | i :: r => .cons (.int i) dp_ints
theorem sh_all : ∀ is : List Int, PyData.canLayAll0 (is.map PyData.int) = true ∧ PyData.depthAll (is.map PyData.int) = 0
  | [] => ⟨rfl, rfl⟩
  | i :: r => by
    obtain ⟨h1, h2⟩ := sh_all r
    simp [PyData.canLayAll0, PyData.depthAll, PyData.canLay0, PyData.depth, h1, h2]
theorem sh_ints {is : List Int} : SeqAt.shaped (.list (is.map PyData.int)) = true := by
  obtain ⟨h1, h2⟩ := sh_all is
  simp [SeqAt.shaped, PyData.canLay0, PyData.depth, h1, h2]
theorem eqv_zero {is : List Int} : PyData.eqv (.list (is.map PyData.int)) (.list [.int 0]) = decide (is = [0]) := by
  match is with
  | [] => simp [PyData.eqv, PyData.eqvAll]
  | [i] =>
    have e : (i == 0) = decide (i = 0) := by
      by_cases h : i = 0
      · rw [h]
        rfl
      · rw [decide_eq_false h]
        exact beq_eq_false_iff_ne.mpr h
    simp [PyData.eqv, PyData.eqvAll, e]
  | i :: j :: r => simp [PyData.eqv, PyData.eqvAll]
def spDec : Sp := fun vs H Q _ => ∃ (wd : Str) (p : Addr) (is : List Int), vs = [.str wd, .ref p] ∧ H p = some (.lst (is.map V.int)) ∧ is.length ≤ 100 ∧ ∀ H', Same H H' → Q (.bl (dec wd is)) H'
theorem ok_is_decided (T : Txt K mg A) : FnOk P w K mg base CX0 1 A.a__is_decided A.d__is_decided ["word", "inner"] spDec := by
  refine T.F__is_decided.ok sc_is_decided (fun vs H Q E ⟨_, _, _, e, _⟩ => by rw [e]; rfl) (fun cdv A' outer s H vs Q E hr h => ?_)
  obtain ⟨wd, p, is, rfl, hp, hl, k⟩ := h
  refine ⟨_, pss_cons (ps_if (pt_cmpR op_eq (pv 0) (pe_str) (nomark _))
  (pss_one (ps_ret (pe_cmpR (op_eqD hr.units) (pv 1) (pe_lst (pa_cons (pe_int) pa_nil)) (nomark _))))
  (pss_nil))
  (pss_one (ps_ret (pe_and (pe_cmpR op_eq (pv 0) (pe_str) (nomark _)) (pe_and (pe_cmpR op_eq (pe_callB call_len_seq (by rfl) T.n_len (by decide +kernel) (pa_cons (pv 1) pa_nil)) (pe_int) (nomark _)) (pe_one (pe_cmpR op_ne (pe_ix ix_list (pv 1) (pe_int) (fun _ _ => rfl)) (pe_int) (nomark _))))))), ?_⟩
  unfold dec at k
  refine if_seq (tt_test (te_eq (te_var rfl) te_c rfl)) (fun h => ?_) fun h => ?_
  · rw [deq_str] at h
    rw [if_pos (of_decide_eq_true h)] at k
    refine ⟨_, rfl, by show 1 ≤ sizeLine; decide, fun q hq => ?_⟩
    have npq : p ≠ q := ne_of_none hp hq
    refine ⟨PyData.list (is.map PyData.int), PyData.list [PyData.int 0], .lst (.inl (.inl (by rw [upd_ne npq]; exact hp))) dp_ints, .lst (.inl (.inl upd_same)) (.cons (.int 0) .nil), sh_ints, rfl, ?_⟩
    rw [eqv_zero]
    exact k _ (Same.upd hq)
  · rw [deq_str] at h
    rw [if_neg (of_decide_eq_false h)] at k
    refine ret_te (te_andV (te_eq (te_var rfl) te_c rfl) fun _ => te_andV (te_eq (te_len (te_var rfl) (.inl (SqL.of hp))) te_c rfl) fun h1 => te_ne (x := .int (is.headD 0)) (te_ixL (te_var rfl) te_c (SqL.of hp) ?_) te_c rfl) ?_
    · have h2 : is.length = 1 := by
        have h3 : (is.length : Int) = 1 := by simpa using h1
        omega
      match is, h2 with
      | [i], _ => exact atI_nat (j := 0) rfl
    · have e : (decide (V.str wd = .str "or") && (decide (V.int ((is.map V.int).length : Int) = .int 1) && !decide (V.int (is.headD 0) = .int 0))) = (decide (wd = "or") && (decide (is.length = 1) && !decide (is.head? = some 0))) := by
        rw [deq_str, deq_int, deq_int, List.length_map]
        congr 1
        match is with
        | [] => rfl
        | [i] => simp
        | i :: j :: r =>
          have q1 : ¬ (((i :: j :: r).length : Int) = 1) := by simp only [List.length_cons]; omega
          have q2 : ¬ ((i :: j :: r).length = 1) := by simp only [List.length_cons]; omega
          rw [decide_eq_false q1, decide_eq_false q2]
          rfl
      rw [e]
      exact k _ (Same.refl H)
/-! ### a part's value from those of its parts -/
def spRes {S : Type} (P : Program) (w : World) (K : PySem.W.Frag) (mg : Str → Option Value) (base : Heap) (C : Addr) (L : Look S) : Sp := fun vs H Q E => ∃ (B H0 : Hp) (s : S) (e : Ex) (is : List Int) (v : V) (p f : Addr) (spf : Sp), vs = [v, .ref p, .ref f] ∧ Same B H ∧ Rp K B e.d [v] ∧ e.ok ∧ okEx L.okL e ∧
  H p = some (.lst (is.map V.int)) ∧ (∀ i ∈ is, InR i) ∧ is.length ≤ e.parts.length ∧ needs e is = false ∧ L.J s H ∧ (∀ b, H0 b ≠ none → H b ≠ none) ∧ ClOk P w K mg base (L2N.CX P w) 9 f spf ∧ LookOk K C B H0 L f spf ∧
  (∀ n s' H', resE L.lk s e is = (.ok n, s') → InR n → L.J s' H' → FrX L.X H H' → Q (.int n) H') ∧
  (∀ r s' d H', resE L.lk s e is = (.er r, s') → L.J s' H' → FrX L.X H H' → H d = none → H' d = some (.xd (errF r)) → E (.ref C) (some d) H')
theorem b1_in (b : Bool) : InR (b1 b) := by
  cases b <;> (unfold InR b1; simp)
theorem len_of_needs {e : Ex} {is : List Int} (h : needs e is = false) (h1 : is.length ≤ e.parts.length) (hne : e.parts ≠ []) (h2 : ¬ logic e.word) : is.length = e.parts.length := by
  unfold needs at h
  have hd : dec e.word is = false := by
    unfold dec
    rw [if_neg fun q => h2 (.inl q), decide_eq_false fun q => h2 (.inr q)]
    rfl
  rw [hd] at h
  have q : ¬ is.length < e.parts.length := by simpa using h
  omega
theorem ok_result {S : Type} (L : Look S) (T : Txt K mg A) : FnOk P w K mg base (L2N.CX P w) 10 A.a__result A.d__result ["part", "inner", "look"] (spRes P w K mg base A.a_Fault L) := by
  refine okN T.F__result sc_result (fun vs H Q E ⟨_, _, _, _, _, _, _, _, _, e, _⟩ => by rw [e]; rfl) (fun cdv A' outer s0 H vs Q E hr h => ?_)
  obtain ⟨B, H0, s, e, is, v, p, f, spf, rfl, s1, r, ok, okl, hp, hin, hle, hn, hJ, h00, cl, lo, k1, k2⟩ := h
  refine ⟨_, pss_cons (ps_set (i := 3) sc_result.nd rfl (Or.inl rfl) (pe_ix ix_tup (pv 0) (pe_int) (fun _ _ => rfl)))
  (C8.pss_cut (ps_if (pt_cmpR op_eq (pv 3) (pe_str) (nomark _))
  (pss_one (ps_set (i := 4) sc_result.nd rfl (Or.inl rfl) (pe_ix ix_tup (pv 0) (pe_int) (fun _ _ => rfl))))
  (pss_one (ps_if (PW.pt (pw_or (pt_cmpR op_eq (pe_callB call_len_seq (by rfl) T.n_len (by decide +kernel) (pa_cons (pv 1) pa_nil)) (pe_int) (nomark _)) (pw_or1 (pt_cmpR op_eq (pv 3) (pe_str) (nomark _)))))
  (pss_one (ps_ret (pe_callP (S := fun f sp => ClOk P w K mg base (L2N.CX P w) 9 f sp) (fun _ _ h => h) (hr.mono (by decide)) (fun σ => L2N.passAt (L2N.takes_of rfl rfl rfl rfl) σ) (i := 2) rfl (Or.inl rfl) (pa_cons (pv 0) (pa_cons (pv 1) pa_nil)))))
  (pss_one (ps_if (PW.pt (pw_or (pt_cmpR op_eq (pv 3) (pe_str) (nomark _)) (pw_or1 (pt_cmpR op_eq (pv 3) (pe_str) (nomark _)))))
  (pss_one (ps_set (i := 4) sc_result.nd rfl (Or.inl rfl) (pe_call (ok_truth T) (hr.mono (by decide)) rfl T.g__truth T.F__truth.kp T.b__truth .nil pass0 (pa_cons (pe_cmpR op_ne (pe_ix ix_list (pv 1) (pe_un un_neg pe_int) (fun _ _ => rfl)) (pe_int) (nomark _)) pa_nil))))
  (pss_one (ps_if (pt_cmpR op_eq (pe_callB call_len_seq (by rfl) T.n_len (by decide +kernel) (pa_cons (pv 1) pa_nil)) (pe_int) (nomark _))
  (pss_one (ps_set (i := 4) sc_result.nd rfl (Or.inl rfl) (pe_call (ok_of_one T) (hr.mono (by decide)) rfl T.g__of_one T.F__of_one.kp T.b__of_one .nil pass0 (pa_cons (pv 3) (pa_cons (pe_ix ix_list (pv 1) (pe_int) (fun _ _ => rfl)) pa_nil)))))
  (pss_one (ps_set (i := 4) sc_result.nd rfl (Or.inl rfl) (pe_callS (ok_of_two T) (hr.mono (by decide)) rfl T.g__of_two T.F__of_two.kp T.b__of_two (fun σ => L2N.passAt (L2N.takes_of rfl rfl rfl rfl) σ) (pa_cons (pv 3) (pa_cons (pe_ix ix_list (pv 1) (pe_int) (fun _ _ => rfl)) (pa_cons (pe_ix ix_list (pv 1) (pe_int) (fun _ _ => rfl)) pa_nil)))))))))))))
  (pss_cons (ps_if (pt_not (pt_val (pe_call (ok_is_value T) (hr.mono (by decide)) rfl T.g_is_value T.F_is_value.kp T.b_is_value .nil pass0 (pa_cons (pv 4) pa_nil))))
  (pss_one (L2N.ps_raise rfl (L2N.takes_of rfl rfl rfl rfl) (pmkN_oex T.Fault_o T.Fault_i T.Fault_t (ok_Fault___init__ T) (hr.mono (by decide)) T.b_Fault___init__ pass0 (by exact rfl) T.g_Fault (pa_cons (pe_str) pa_nil))))
  (pss_nil))
  (pss_one (ps_ret (pv 4))))), ?_⟩
  refine asg_te (te_word r s1 (te_var rfl)) ?_
  refine set_sl (σ' := [some v, some (.ref p), some (.ref f), some (.str e.word), none]) rfl ?_
  have js : ∀ H', Same H H' → L.J s H' := fun H' q => lo.stab s H H' hJ fun b hb => by
    cases g : H b with
    | none => exact absurd g (h00 b hb)
    | some o => exact q b o g
  have hlen : ∀ {σ : L2.St}, σ[1]? = some (some (.ref p)) → Te (tCB (fun vs H Q => ∃ p ys, vs = [.ref p] ∧ (SqL K H p ys ∨ SqT K H p ys) ∧ Q (.int ys.length) H) (tCons (tVar 1) tNil)) σ H (.int (is.length : Int)) := fun h => by
    have q := te_len (K := K) (te_var h) (.inl (SqL.of hp))
    rw [List.length_map] at q
    exact q
  obtain ⟨F, hF⟩ := lo.fno s H hJ
  -- what the leaves give
  have leaf : L.okL e → is.length = e.parts.length → resE L.lk s e is = L.lk s e is → tCallP 2 (fun f sp => ClOk P w K mg base (L2N.CX P w) 9 f sp) (WE fun c d σ H => E c d H) (tCons (tVar 0) (tCons (tVar 1) tNil)) [some v, some (.ref p), some (.ref f), some (.str e.word), none] H Q := by
    intro hl hl2 hre
    refine ⟨f, F, spf, rfl, cl, hF, _, rfl, _, rfl, hF, ?_⟩
    refine lo.run s e is v p H Q _ hJ hl ok r s1 hp hin hl2 (fun n s' H' q j g => k1 n s' H' (hre.trans q) (lo.rng s e is n s' hl q) j g) fun rr s' d H' q j g d0 d1 => k2 rr s' d H' (hre.trans q) j g d0 d1
  have hlogic : ∀ {H : Hp}, Tt (tOr (tTest (tOp rEq (tVar 3) (tC (.str "and")))) (tTest (tOp rEq (tVar 3) (tC (.str "or"))))) [some v, some (.ref p), some (.ref f), some (.str e.word), none] H (decide (logic e.word)) := fun {H} => by
    have q := tt_or (tt_test (te_eq (H := H) (σ := [some v, some (.ref p), some (.ref f), some (.str e.word), none]) (ta := tVar 3) (te_var rfl) (te_c (v := .str "and")) rfl)) fun _ => tt_test (te_eq (te_var (i := 3) rfl) (te_c (v := .str "or")) rfl)
    rw [deq_str, deq_str] at q
    have e1 : (decide (e.word = "and") || decide (e.word = "or")) = decide (logic e.word) := by
      apply Bool.eq_iff_iff.mpr
      simp only [Bool.or_eq_true, decide_eq_true_eq]
      exact Iff.rfl
    rw [e1] at q
    exact q
  refine ⟨fun σ H' => ∃ n : Int, σ = [some v, some (.ref p), some (.ref f), some (.str e.word), some (.int n)] ∧ H' = H ∧ resE L.lk s e is = (chk n, s), ?_, ?_⟩
  · cases e with
    | num n =>
      obtain ⟨a, xs, rfl, h1, h2, h3⟩ := rp_tup r
      obtain ⟨x1, r1, rfl, q1, q2⟩ := rp_cons h3
      obtain ⟨x2, r2, rfl, q3, q4⟩ := rp_cons q2
      cases q3
      refine if_go (tt_test (te_eq (te_var rfl) te_c rfl)) (fun _ => ?_) fun h => absurd rfl (of_decide_eq_false h)
      exact (te_ixT (te_var rfl) te_c (Same.sqT s1 h1) (atI_nat (j := 1) rfl) : Te _ _ _ (.int n)) _ ⟨n, rfl, rfl, rfl⟩
    | var wd x =>
      have hw : wd ≠ "number" := by
        rcases ok.1 with z | z <;> (rw [z]; decide +kernel)
      have h0 : is = [] := List.length_eq_zero_iff.mp (Nat.le_zero.mp hle)
      subst h0
      refine if_go (tt_test (te_eq (te_var rfl) te_c rfl)) (fun h => absurd (V.str.inj (of_decide_eq_true h)) hw) fun _ => ?_
      refine if_go (tt_or (tt_test (te_eq (hlen rfl) te_c rfl)) fun _ => tt_test (te_eq (te_var rfl) te_c rfl)) (fun _ => ?_) fun h => by simp at h
      exact leaf okl rfl rfl
    | cell x a =>
      have h1 : is.length = 1 := len_of_needs hn hle (by simp [Ex.parts]) (by show ¬ logic "cell"; decide +kernel)
      refine if_go (tt_test (te_eq (te_var rfl) te_c rfl)) (fun h => absurd (V.str.inj (of_decide_eq_true h)) (by show ("cell" : Str) ≠ _; decide +kernel)) fun _ => ?_
      refine if_go (tt_or (tt_test (te_eq (hlen rfl) te_c rfl)) fun _ => tt_test (te_eq (te_var rfl) te_c rfl)) (fun _ => ?_) fun h => by
        rw [Bool.or_eq_false_iff] at h
        exact absurd rfl (of_decide_eq_false h.2)
      exact leaf okl.1 h1 rfl
    | one wd a =>
      have hw : ∀ u ∈ Ex.words1, u ≠ "number" ∧ u ≠ "cell" ∧ ¬ logic u := by decide +kernel
      obtain ⟨w1, w2, w3⟩ := hw wd ok.1
      have h1 : is.length = 1 := len_of_needs hn hle (by simp [Ex.parts]) w3
      obtain ⟨i, rfl⟩ : ∃ i, is = [i] := by
        match is, h1 with
        | [i], _ => exact ⟨i, rfl⟩
      · refine if_go (tt_test (te_eq (te_var rfl) te_c rfl)) (fun h => absurd (V.str.inj (of_decide_eq_true h)) w1) fun _ => ?_
        refine if_go (tt_or (tt_test (te_eq (hlen rfl) te_c rfl)) fun _ => tt_test (te_eq (te_var rfl) te_c rfl)) (fun h => ?_) fun _ => ?_
        · rw [Bool.or_eq_true] at h
          rcases h with h | h
          · exact absurd (V.int.inj (of_decide_eq_true h)) (by simp)
          · exact absurd (V.str.inj (of_decide_eq_true h)) w2
        · refine if_go hlogic (fun h => absurd (of_decide_eq_true h) w3) fun _ => ?_
          refine if_go (tt_test (te_eq (hlen rfl) te_c rfl)) (fun _ => ?_) fun h => absurd rfl (of_decide_eq_false h)
          exact ⟨_, rfl, (te_ixL (te_var rfl) te_c (SqL.of hp) (atI_nat (j := 0) rfl) : Te _ _ _ (.int i)) _ ⟨wd, i, rfl, f1 wd i, rfl, rfl, rfl⟩⟩
    | two wd a b =>
      have hw : ∀ u ∈ Ex.words2, u ≠ "number" ∧ u ≠ "cell" := by decide +kernel
      obtain ⟨w1, w2⟩ := hw wd ok.1
      have hpos : is ≠ [] := fun z => by
        subst z
        unfold needs at hn
        rw [dec_nil] at hn
        simp [Ex.parts] at hn
      refine if_go (tt_test (te_eq (te_var rfl) te_c rfl)) (fun h => absurd (V.str.inj (of_decide_eq_true h)) w1) fun _ => ?_
      refine if_go (tt_or (tt_test (te_eq (hlen rfl) te_c rfl)) fun _ => tt_test (te_eq (te_var rfl) te_c rfl)) (fun h => ?_) fun _ => ?_
      · rw [Bool.or_eq_true] at h
        rcases h with h | h
        · have z : (is.length : Int) = 0 := V.int.inj (of_decide_eq_true h)
          exact absurd (List.length_eq_zero_iff.mp (by omega)) hpos
        · exact absurd (V.str.inj (of_decide_eq_true h)) w2
      refine if_go hlogic (fun h => ?_) fun h => ?_
      · have hl : logic wd := of_decide_eq_true h
        have hlast : atI (is.map V.int) (-1) = some (.int (is.getLastD 0)) := by
          match is, hpos, hle with
          | [i], _, _ => rfl
          | [i, j], _, _ => rfl
          | i :: j :: k :: r, _, z =>
            simp [Ex.parts] at z
        refine (te_ne (x := .int (is.getLastD 0)) (y := .int 0) (te_ixL (te_var rfl) (te_neg te_c) (SqL.of hp) hlast) te_c rfl : Te _ _ _ _) _ ⟨_, rfl, _, rfl, rfl, ?_⟩
        show (if logic wd then _ else _) = _
        rw [if_pos hl, deq_int]
        unfold chk
        rw [if_pos (b1_in _)]
      · have hl : ¬ logic wd := of_decide_eq_false h
        have h1 : is.length = 2 := len_of_needs hn hle (by simp [Ex.parts]) hl
        obtain ⟨i, j, rfl⟩ : ∃ i j, is = [i, j] := by
          match is, h1 with
          | [i, j], _ => exact ⟨i, j, rfl⟩
        · refine if_go (tt_test (te_eq (hlen rfl) te_c rfl)) (fun h => absurd (V.int.inj (of_decide_eq_true h)) (by simp)) fun _ => ?_
          refine ⟨_, rfl, (te_ixL (te_var rfl) te_c (SqL.of hp) (atI_nat (j := 0) rfl) : Te _ _ _ (.int i)) _ ((te_ixL (te_var rfl) te_c (SqL.of hp) (atI_nat (j := 1) rfl) : Te _ _ _ (.int j)) _ ?_)⟩
          refine ⟨wd, i, j, rfl, hin i (by simp), hin j (by simp), fun n hf => ⟨n, rfl, rfl, ?_⟩, fun hf d H' g d0 d1 => k2 "zero" s d H' ?_ (js H' g) (FrX.same g) d0 d1⟩
          · show (if logic wd then _ else match f2 wd i j with | some n => (chk n, s) | none => (.er "zero", s)) = _
            rw [if_neg hl, hf]
          · show (if logic wd then _ else match f2 wd i j with | some n => (chk n, s) | none => (.er "zero", s)) = _
            rw [if_neg hl, hf]
  · rintro σ H' ⟨n, rfl, rfl, hre⟩
    refine if_seq (tt_not (tt_test (te_isv (ta_cons (te_var rfl) ta_nil)))) (fun h => ?_) fun h => ?_
    · have hn : ¬ InR n := by simpa using h
      unfold chk at hre
      rw [if_neg hn] at hre
      exact raise_go (fun R q => q) fun d H2 g d0 d1 => k2 "range" s d H2 hre (js H2 g) (FrX.same g) d0 d1
    · have hn : InR n := by simpa using h
      unfold chk at hre
      rw [if_pos hn] at hre
      exact ret_te (te_var rfl) (k1 n s H' hre hn hJ FrX.refl)
end
end K13

namespace K13
open PySem L2 YF
/-! ### the machine's own lists -/
section
variable {K : PySem.W.Frag} {S : Type} {L : Look S} {B H0 Hc H' : Hp} {pb pk : Addr} {items : List V} {known : List Int} {s : S}
/-- an item of what is begun: the part, how many of its parts have been begun -/
def ItOk (K : PySem.W.Frag) (L : Look S) (B H0 Hc : Hp) (x : Ex × Nat) (v : V) : Prop := ∃ t u, v = .ref t ∧ H0 t = none ∧ Hc t = some (.tup [u, .int (x.2 : Int)]) ∧ Rp K B x.1.d [u] ∧ x.1.ok ∧ okEx L.okL x.1
def Its (K : PySem.W.Frag) (L : Look S) (B H0 Hc : Hp) (l : List (Ex × Nat)) (vs : List V) : Prop := Paired (ItOk K L B H0 Hc) l vs
theorem paired_snoc {α β : Type} {F : α → β → Prop} : ∀ {l : List α} {vs : List β} {x : α} {v : β}, Paired F l vs → F x v → Paired F (l ++ [x]) (vs ++ [v])
  | _, _, _, _, .nil, h => .cons h .nil
  | _, _, _, _, .cons a r, h => .cons a (paired_snoc r h)
theorem paired_last {α β : Type} {F : α → β → Prop} : ∀ {l : List α} {vs : List β} {x : α}, Paired F (l ++ [x]) vs → ∃ vs' v, vs = vs' ++ [v] ∧ Paired F l vs' ∧ F x v
  | [], _, _, .cons h .nil => ⟨[], _, rfl, .nil, h⟩
  | _ :: l, _, _, .cons a r => by
    obtain ⟨vs', v, e, h1, h2⟩ := paired_last (l := l) r
    exact ⟨_ :: vs', v, by rw [e]; rfl, .cons a h1, h2⟩
theorem paired_mapP {α β : Type} {F G : α → β → Prop} {l : List α} {vs : List β} (h : Paired F l vs) (f : ∀ a b, F a b → G a b) : Paired G l vs := by
  induction h with
  | nil => exact .nil
  | cons a r ih => exact .cons (f _ _ a) ih
theorem paired_len {α β : Type} {F : α → β → Prop} {l : List α} {vs : List β} (h : Paired F l vs) : vs.length = l.length := by
  induction h with
  | nil => rfl
  | cons a r ih => simp [ih]
theorem Its.mono {l : List (Ex × Nat)} {vs : List V} (h : Its K L B H0 Hc l vs) (k : ∀ t xs, H0 t = none → Hc t = some (.tup xs) → H' t = some (.tup xs)) : Its K L B H0 H' l vs :=
  paired_mapP h fun x v ⟨t, u, e, h1, h2, h3⟩ => ⟨t, u, e, h1, k _ _ h1 h2, h3⟩
structure Cur (L : Look S) (H0 Hc : Hp) (pb pk : Addr) (items : List V) (known : List Int) (s : S) : Prop where
  hpb : Hc pb = some (.lst items)
  hpk : Hc pk = some (.lst (known.map V.int))
  J : L.J s Hc
  fr : FrX L.X H0 Hc
  dom : ∀ b, H0 b ≠ none → Hc b ≠ none
  nb : H0 pb = none
  nk : H0 pk = none
  ne : pb ≠ pk
theorem Cur.fresh (c : Cur L H0 Hc pb pk items known s) {a : Addr} (h : Hc a = none) : H0 a = none := by
  cases e : H0 a with
  | none => rfl
  | some o => exact absurd h (c.dom a (by rw [e]; simp))
theorem Cur.new {C : Addr} {f : Addr} {spf : Sp} (lo : LookOk K C B H0 L f spf) (c : Cur L H0 Hc pb pk items known s) {a : Addr} {o : HO} (h : Hc a = none) : Cur L H0 (upd Hc a o) pb pk items known s := by
  have a0 := c.fresh h
  have n1 : pb ≠ a := ne_of_none c.hpb h
  have n2 : pk ≠ a := ne_of_none c.hpk h
  refine ⟨by rw [upd_ne n1]; exact c.hpb, by rw [upd_ne n2]; exact c.hpk, lo.stab s Hc _ c.J fun b hb => upd_ne fun e => hb (by rw [e]; exact a0), fun b o' e n => ?_, fun b hb => ?_, c.nb, c.nk, c.ne⟩
  · rw [upd_ne (ne_of_none e a0)]
    exact c.fr b o' e n
  · rw [upd_ne fun e => hb (by rw [e]; exact a0)]
    exact c.dom b hb
theorem Cur.setB {C : Addr} {f : Addr} {spf : Sp} (lo : LookOk K C B H0 L f spf) (c : Cur L H0 Hc pb pk items known s) (items' : List V) : Cur L H0 (upd Hc pb (.lst items')) pb pk items' known s := by
  refine ⟨upd_same, by rw [upd_ne c.ne.symm]; exact c.hpk, lo.stab s Hc _ c.J fun b hb => upd_ne fun e => hb (by rw [e]; exact c.nb), fun b o' e n => ?_, fun b hb => ?_, c.nb, c.nk, c.ne⟩
  · rw [upd_ne (ne_of_none e c.nb)]
    exact c.fr b o' e n
  · rw [upd_ne fun e => hb (by rw [e]; exact c.nb)]
    exact c.dom b hb
theorem Cur.setK {C : Addr} {f : Addr} {spf : Sp} (lo : LookOk K C B H0 L f spf) (c : Cur L H0 Hc pb pk items known s) (known' : List Int) : Cur L H0 (upd Hc pk (.lst (known'.map V.int))) pb pk items known' s := by
  refine ⟨by rw [upd_ne c.ne]; exact c.hpb, upd_same, lo.stab s Hc _ c.J fun b hb => upd_ne fun e => hb (by rw [e]; exact c.nk), fun b o' e n => ?_, fun b hb => ?_, c.nb, c.nk, c.ne⟩
  · rw [upd_ne (ne_of_none e c.nk)]
    exact c.fr b o' e n
  · rw [upd_ne fun e => hb (by rw [e]; exact c.nk)]
    exact c.dom b hb
theorem Cur.same {C : Addr} {f : Addr} {spf : Sp} (lo : LookOk K C B H0 L f spf) (c : Cur L H0 Hc pb pk items known s) (q : Same Hc H') : Cur L H0 H' pb pk items known s := by
  refine ⟨q _ _ c.hpb, q _ _ c.hpk, lo.stab s Hc _ c.J fun b hb => ?_, fun b o e n => q b o (c.fr b o e n), fun b hb => ?_, c.nb, c.nk, c.ne⟩
  · cases g : Hc b with
    | none => exact absurd g (c.dom b hb)
    | some o => exact q b o g
  · cases g : Hc b with
    | none => exact absurd g (c.dom b hb)
    | some o =>
      rw [q b o g]
      simp
/-- a leaf was asked -/
theorem Cur.asked {C : Addr} {f : Addr} {spf : Sp} (lo : LookOk K C B H0 L f spf) (c : Cur L H0 Hc pb pk items known s) {s' : S} (j : L.J s' H') (g : FrX L.X Hc H') (g2 : ∀ x ∈ L.X, H' x ≠ none) : Cur L H0 H' pb pk items known s' := by
  refine ⟨g _ _ c.hpb fun m => lo.dom _ m c.nb, g _ _ c.hpk fun m => lo.dom _ m c.nk, j, c.fr.trans g, fun b hb => ?_, c.nb, c.nk, c.ne⟩
  by_cases m : b ∈ L.X
  · exact g2 b m
  · have q := c.dom b hb
    cases e : Hc b with
    | none => exact absurd e q
    | some o =>
      rw [g b o e m]
      simp
theorem Its.new {l : List (Ex × Nat)} {vs : List V} (h : Its K L B H0 Hc l vs) {a : Addr} {o : HO} (ha : Hc a = none) : Its K L B H0 (upd Hc a o) l vs := h.mono fun t xs _ e => by
  rw [upd_ne (ne_of_none e ha)]
  exact e
theorem Its.set {l : List (Ex × Nat)} {vs ys zs : List V} (h : Its K L B H0 Hc l vs) {a : Addr} (ha : Hc a = some (.lst ys)) : Its K L B H0 (upd Hc a (.lst zs)) l vs := h.mono fun t xs _ e => by
  rw [upd_ne (ne_of e ha (by intro z; cases z))]
  exact e
theorem Its.asked {C : Addr} {f : Addr} {spf : Sp} (lo : LookOk K C B H0 L f spf) {l : List (Ex × Nat)} {vs : List V} (h : Its K L B H0 Hc l vs) (g : FrX L.X Hc H') : Its K L B H0 H' l vs := h.mono fun t xs h0 e => g t _ e fun m => lo.dom t m h0
end
def begunOf (t : Fr) (below : List Fr) : List (Ex × Nat) := (below.reverse.map fun f => (f.1, f.2.length + 1)) ++ [(t.1, t.2.length)]
theorem cut_last {xs ys : List V} {n : Int} (h : n = (xs.length : Int)) : cutV (xs ++ ys) (some n) none = ys := by
  subst h
  unfold cutV
  have e1 : HT.sIx (xs ++ ys).length 0 (some (xs.length : Int)) = xs.length := by
    rw [HT.sIx_nat, List.length_append]
    omega
  have e2 : HT.sIx (xs ++ ys).length (xs ++ ys).length none = (xs ++ ys).length := rfl
  rw [e1, e2, List.drop_left]
  rw [List.take_of_length_le (by rw [List.length_append]; omega)]
theorem below_le (t : Fr) (below : List Fr) : below.length < left t below := by
  unfold left
  have h1 := rem_pos t.1 t.2.length
  have h2 : below.length ≤ (below.map fun f => remN f.1 (f.2.length + 1)).sum := by
    induction below with
    | nil => exact Nat.le_refl _
    | cons f r ih =>
      have h3 := rem_pos f.1 (f.2.length + 1)
      simp only [List.length_cons, List.map_cons, List.sum_cons]
      omega
  omega
theorem parts_le (e : Ex) : e.parts.length ≤ 2 := by
  cases e <;> simp [Ex.parts]
theorem flat_le : ∀ (l : List Fr), (∀ f ∈ l, f.2.length ≤ 2) → (l.map (·.2)).flatten.length ≤ 2 * l.length
  | [], _ => Nat.le_refl _
  | f :: r, h => by
    have h1 := h f (by simp)
    have h2 := flat_le r fun g hg => h g (by simp [hg])
    simp only [List.map_cons, List.flatten_cons, List.length_append, List.length_cons]
    omega
theorem ok_part {okL : Ex → Prop} {e c : Ex} {n : Nat} (h : e.parts[n]? = some c) (h1 : e.ok) (h2 : okEx okL e) : c.ok ∧ okEx okL c := by
  have m := List.mem_of_getElem? h
  cases e with
  | num x => cases m
  | var w x => cases m
  | cell x a =>
    simp only [Ex.parts, List.mem_singleton] at m
    subst m
    exact ⟨h1, h2.2⟩
  | one w a =>
    simp only [Ex.parts, List.mem_singleton] at m
    subst m
    exact ⟨h1.2, h2⟩
  | two w a b =>
    simp only [Ex.parts, List.mem_cons, List.mem_nil_iff, or_false] at m
    rcases m with rfl | rfl
    · exact ⟨h1.2.1, h2.1⟩
    · exact ⟨h1.2.2, h2.2⟩
theorem rp_part {K : PySem.W.Frag} {B : Hp} : ∀ {l : List Ex} {xs : List V} {n : Nat} {c : Ex}, Rp K B (D.row (l.map Ex.d)) xs → l[n]? = some c → ∃ u, xs[n]? = some u ∧ Rp K B c.d [u]
  | [], _, _, _, _, h => by cases h
  | e :: r, xs, 0, c, h, q => by
    obtain ⟨x, ys, rfl, h1, h2⟩ := h
    cases q
    exact ⟨x, rfl, h1⟩
  | e :: r, xs, n + 1, c, h, q => by
    obtain ⟨x, ys, rfl, h1, h2⟩ := h
    obtain ⟨u, e1, e2⟩ := rp_part (l := r) (n := n) h2 (by simpa using q)
    exact ⟨u, by simpa using e1, e2⟩
theorem row_len2 {K : PySem.W.Frag} {B : Hp} : ∀ {l : List Ex} {xs : List V}, Rp K B (D.row (l.map Ex.d)) xs → xs.length = l.length
  | [], xs, h => by
    have e : xs = [] := h
    rw [e]
    rfl
  | e :: r, xs, h => by
    obtain ⟨x, ys, rfl, h1, h2⟩ := h
    simp [row_len2 (l := r) h2]
section
variable {P : Program} {w : World} {K : PySem.W.Frag} {mg : Str → Option Value} {base : Heap} {A : Adr}
theorem asg_callS {σ : L2.St} {H : Hp} {ta : TA} {sp : Sp} {E : L2.St → XK} {D : Ends} {rest : TS} {i : Nat} (h : ta σ H fun vs H1 => sp vs H1 (fun v H' => rest D (σ.set i (some v)) H') (E σ)) : tSeq (tAsg (tCallS sp E ta) (gName i)) rest D σ H := h
theorem and_go {t u : TT} {σ : L2.St} {H : Hp} {b : Bool} {Q : Bool → Hp → Prop} (h : Tt t σ H b) (h1 : b = true → u σ H Q) (h2 : b = false → Q false H) : tAnd t u σ H Q := h _ (by
  cases b with
  | true => exact h1 rfl
  | false => exact h2 rfl)
theorem upd_twice {H : Hp} {p : Addr} {o o' : HO} : upd (upd H p o) p o' = upd H p o' := by
  funext b
  by_cases e : b = p
  · subst e
    rw [upd_same, upd_same]
  · rw [upd_ne e, upd_ne e, upd_ne e]
theorem if_any {c : TT} {tu tw : TS} {D : Ends} {σ : L2.St} {H : Hp} {b : Bool} (R : Hp → Prop) (h : ∀ Q : Bool → Hp → Prop, (∀ H', R H' → Q b H') → c σ H Q) (h1 : ∀ H', R H' → b = true → tu D σ H') (h2 : ∀ H', R H' → b = false → tw D σ H') : tIfS c tu tw D σ H :=
  h _ fun H' r => by
    cases b with
    | true => exact (if_pos rfl).mpr (h1 H' r rfl)
    | false => exact (if_neg (by decide)).mpr (h2 H' r rfl)
def spVW {S : Type} (P : Program) (w : World) (K : PySem.W.Frag) (mg : Str → Option Value) (base : Heap) (C : Addr) (L : Look S) : Sp := fun vs H Q E => ∃ (B : Hp) (s : S) (e : Ex) (v : V) (f : Addr) (spf : Sp), vs = [v, .ref f] ∧ Same B H ∧ Rp K B e.d [v] ∧ e.ok ∧ okEx L.okL e ∧ stp e ≤ 100000 ∧
  L.J s H ∧ ClOk P w K mg base (L2N.CX P w) 9 f spf ∧ LookOk K C B H L f spf ∧ (∀ s H', L.J s H' → ∀ x ∈ L.X, H' x ≠ none) ∧
  (∀ n s' H', ev L.lk s e = (.ok n, s') → InR n → L.J s' H' → FrX L.X H H' → Q (.int n) H') ∧
  (∀ r s' d H', ev L.lk s e = (.er r, s') → L.J s' H' → FrX L.X H H' → H d = none → H' d = some (.xd (errF r)) → E (.ref C) (some d) H')
theorem ok_value_with {S : Type} (L : Look S) (T : Txt K mg A) : FnOk P w K mg base (L2N.CX P w) 11 A.a_value_with A.d_value_with ["expression", "look"] (spVW P w K mg base A.a_Fault L) := by
  refine okN T.F_value_with sc_value_with (fun vs H Q E ⟨_, _, _, _, _, _, e, _⟩ => by rw [e]; rfl) (fun cdv A' outer s0 H vs Q E hr h => ?_)
  obtain ⟨B, s, e, v, f, spf, rfl, s1, r, ok, okl, he, hJ, cl, lo, jx, k1, k2⟩ := h
  refine ⟨_, pss_cons (ps_set (i := 2) sc_value_with.nd rfl (Or.inl rfl) (pe_lst (pa_cons (pe_tup (pa_cons (pv 0) (pa_cons (pe_int) pa_nil))) pa_nil)))
  (pss_cons (ps_set (i := 3) sc_value_with.nd rfl (Or.inl rfl) (pe_lst pa_nil))
  (pss_cons (ps_while PassesOwn.leaving (pt_truth (pv 2) (by intro _; rfl))
  (pss_cons (ps_asg (pe_bm0 PySem.F.plainAttrs_list PySem.F.slot_list_pop PySem.F.type_list_pop mt_pop (pv 2)) (pg_tup (by rfl) (pgs_cons (pg_name (i := 4) sc_value_with.nd rfl (Or.inl rfl)) (pgs_cons (pg_name (i := 5) sc_value_with.nd rfl (Or.inl rfl)) pgs_nil))))
  (pss_cons (ps_set (i := 6) sc_value_with.nd rfl (Or.inl rfl) (pe_call (ok_parts_of T) (hr.mono (by decide)) rfl T.g_parts_of T.F_parts_of.kp T.b_parts_of .nil pass0 (pa_cons (pv 4) pa_nil)))
  (pss_one (ps_if (PW.pt (pw_and (pt_cmpR op_lt (pv 5) (pe_callB call_len_seq (by rfl) T.n_len (by decide +kernel) (pa_cons (pv 6) pa_nil)) (nomark _)) (pw_and1 (pt_not (pt_val (pe_call (ok_is_decided T) (hr.mono (by decide)) rfl T.g__is_decided T.F__is_decided.kp T.b__is_decided .nil pass0 (pa_cons (pe_ix ix_tup (pv 4) (pe_int) (fun _ _ => rfl)) (pa_cons (pe_slice sl_list (pv 3) (po_some (pe_op op_sub (pe_callB call_len_seq (by rfl) T.n_len (by decide +kernel) (pa_cons (pv 3) pa_nil)) (pv 5))) (po_none)) pa_nil))))))))
  (pss_cons (ps_expr (pe_bm PySem.F.plainAttrs_list PySem.F.slot_list_append PySem.F.type_list_append mt_append (pv 2) (pa_cons (pe_tup (pa_cons (pv 4) (pa_cons (pe_op op_add (pv 5) (pe_int)) pa_nil))) pa_nil)))
  (pss_one (ps_expr (pe_bm PySem.F.plainAttrs_list PySem.F.slot_list_append PySem.F.type_list_append mt_append (pv 2) (pa_cons (pe_tup (pa_cons (pe_ix ix_tup (pv 6) (pv 5) (fun _ _ => rfl)) (pa_cons (pe_int) pa_nil))) pa_nil)))))
  (pss_cons (ps_set (i := 7) sc_value_with.nd rfl (Or.inl rfl) (pe_op op_sub (pe_callB call_len_seq (by rfl) T.n_len (by decide +kernel) (pa_cons (pv 3) pa_nil)) (pv 5)))
  (pss_cons (ps_set (i := 8) sc_value_with.nd rfl (Or.inl rfl) (pe_callS (ok_result L T) (hr.mono (by decide)) rfl T.g__result T.F__result.kp T.b__result (fun σ => L2N.passAt (L2N.takes_of rfl rfl rfl rfl) σ) (pa_cons (pv 4) (pa_cons (pe_slice sl_list (pv 3) (po_some (pv 7)) (po_none)) (pa_cons (pv 1) pa_nil)))))
  (pss_cons (ps_delF (pv 3) (pv 7))
  (pss_one (ps_expr (pe_bm PySem.F.plainAttrs_list PySem.F.slot_list_append PySem.F.type_list_append mt_append (pv 3) (pa_cons (pv 8) pa_nil))))))))))))
  (pss_one (ps_ret (pe_ix ix_list (pv 3) (pe_int) (fun _ _ => rfl)))))), ?_⟩
  -- begun, known
  refine ⟨_, rfl, by show 2 ≤ sizeLine; decide, fun t0 ht0 => ⟨by show 1 ≤ sizeLine; decide, fun pb hpb => ?_⟩⟩
  dsimp only [gName]
  refine ⟨Nat.zero_le _, fun pk hpk => ?_⟩
  dsimp only [gName]
  have n1 : t0 ≠ pb := ne_of_none upd_same hpb
  have n2 : pb ≠ pk := ne_of_none upd_same hpk
  have n3 : t0 ≠ pk := ne_of_none (by rw [upd_ne n1]; exact upd_same) hpk
  have b0 : H pb = none := by rw [upd_ne n1.symm] at hpb; exact hpb
  have k0 : H pk = none := by rw [upd_ne n2.symm, upd_ne n3.symm] at hpk; exact hpk
  have c0 : Cur L H (upd (upd (upd H t0 (.tup [v, .int 0])) pb (.lst [.ref t0])) pk (.lst [])) pb pk [.ref t0] [] s := by
    refine ⟨by rw [upd_ne n2]; exact upd_same, upd_same, lo.stab s H _ hJ fun b hb => ?_, fun b o e _ => ?_, fun b hb => ?_, b0, k0, n2⟩
    · rw [upd_ne fun e => hb (by rw [e]; exact k0), upd_ne fun e => hb (by rw [e]; exact b0), upd_ne fun e => hb (by rw [e]; exact ht0)]
    · rw [upd_ne (ne_of_none e k0), upd_ne (ne_of_none e b0), upd_ne (ne_of_none e ht0)]
      exact e
    · rw [upd_ne fun e => hb (by rw [e]; exact k0), upd_ne fun e => hb (by rw [e]; exact b0), upd_ne fun e => hb (by rw [e]; exact ht0)]
      exact hb
  have i0 : Its K L B H (upd (upd (upd H t0 (.tup [v, .int 0])) pb (.lst [.ref t0])) pk (.lst [])) (begunOf (e, []) []) [.ref t0] :=
    .cons ⟨t0, v, rfl, ht0, by rw [upd_ne n3, upd_ne n1]; exact upd_same, r, ok, okl⟩ .nil
  generalize upd (upd (upd H t0 (HO.tup [v, .int 0])) pb (HO.lst [V.ref t0])) pk (HO.lst []) = H1 at c0 i0 ⊢
  refine set_sl (σ' := [some v, some (.ref f), some (.ref pb), some (.ref pk), none, none, none, none, none]) rfl ?_
  refine ⟨fun m σ Hc => ∃ (v4 v5 v6 v7 v8 : Option V) (s' : S) (items : List V) (known : List Int), σ = [some v, some (.ref f), some (.ref pb), some (.ref pk), v4, v5, v6, v7, v8] ∧ Cur L H Hc pb pk items known s' ∧ (∀ i ∈ known, InR i) ∧
    ((∃ t below, m = left t below ∧ m ≤ stp e ∧ Its K L B H Hc (begunOf t below) items ∧ known = knowns t below ∧ t.2.length ≤ t.1.parts.length ∧ (∀ f ∈ below, f.2.length < f.1.parts.length) ∧ fin L.lk s' t below = ev L.lk s e) ∨ (∃ n, m = 0 ∧ items = [] ∧ known = [n] ∧ (Rz.ok n, s') = ev L.lk s e)),
    ⟨_, none, none, none, none, none, s, _, _, rfl, c0, fun i hi => (by cases hi), .inl ⟨(e, []), [], rfl, ?_, i0, rfl, Nat.zero_le _, fun f hf => (by cases hf), ?_⟩⟩, ?_⟩
  · show remN e 0 + 0 ≤ stp e
    exact Nat.le_refl _
  · show thenE (cont L.lk s e []) _ = _
    have e0 : cont L.lk s e [] = ev L.lk s e := by cases e <;> rfl
    rw [e0]
    cases ev L.lk s e with
    | mk rz s2 => cases rz <;> rfl
  · rintro m σ Hc ⟨v4, v5, v6, v7, v8, s', items, known, rfl, c, hin, hcase⟩
    refine ⟨_, rfl, !items.isEmpty, .inl ⟨items, SqL.of c.hpb, rfl⟩, ?_⟩
    rcases hcase with ⟨t, below, em, hm, its, ek, ht, hbel, hfin⟩ | ⟨n, em, ei, ek, hev⟩
    · -- a part
      subst em ek
      obtain ⟨te, is⟩ := t
      obtain ⟨front, y, ei, itf, t1, u, ey, h0, h1, hru, hok, hokl⟩ := paired_last its
      subst ei ey
      dsimp only at h1 hru hok hokl ht
      have hne : (!(front ++ [V.ref t1]).isEmpty) = true := by simp
      refine (if_pos hne).mpr ?_
      refine ⟨fun σ' H' => ∃ m', m' < left (te, is) below ∧ ∃ (v4 v5 v6 v7 v8 : Option V) (s' : S) (items : List V) (known : List Int), σ' = [some v, some (.ref f), some (.ref pb), some (.ref pk), v4, v5, v6, v7, v8] ∧ Cur L H H' pb pk items known s' ∧ (∀ i ∈ known, InR i) ∧
        ((∃ t below, m' = left t below ∧ m' ≤ stp e ∧ Its K L B H H' (begunOf t below) items ∧ known = knowns t below ∧ t.2.length ≤ t.1.parts.length ∧ (∀ f ∈ below, f.2.length < f.1.parts.length) ∧ fin L.lk s' t below = ev L.lk s e) ∨ (∃ n, m' = 0 ∧ items = [] ∧ known = [n] ∧ (Rz.ok n, s') = ev L.lk s e)), fun σ' H' q => q, ?_⟩
      have bl := below_le (te, is) below
      have hsz : below.length < 100000 := by omega
      -- what stands in the lists
      have hfl : front.length = below.length := by
        rw [paired_len itf, List.length_map, List.length_reverse]
      -- part, many = begun.pop()
      refine ⟨_, rfl, .inl ⟨rfl, _, SqL.of c.hpb⟩, pb, _, .ref t1, rfl, rfl, c.hpb, by simp, ?_⟩
      have c1 := c.setB lo (front ++ [V.ref t1]).dropLast
      have its1 : Its K L B H (upd Hc pb (.lst (front ++ [V.ref t1]).dropLast)) (below.reverse.map fun f => (f.1, f.2.length + 1)) front := Its.set (K := K) itf c.hpb
      have h11 : upd Hc pb (.lst (front ++ [V.ref t1]).dropLast) t1 = some (.tup [u, .int (is.length : Int)]) := by
        rw [upd_ne (ne_of h1 c.hpb (by intro z; cases z))]
        exact h1
      rw [List.dropLast_concat] at c1 its1 h11 ⊢
      generalize upd Hc pb (HO.lst front) = Hd at c1 its1 h11 ⊢
      refine ⟨t1, _, rfl, SqT.of h11, rfl, _, _, rfl, _, _, rfl, rfl, ?_⟩
      dsimp only [gName]
      refine set_sl (σ' := [some v, some (.ref f), some (.ref pb), some (.ref pk), some u, some (.int (is.length : Int)), v6, v7, v8]) rfl ?_
      have sBd : Same B Hd := fun b o q => c1.fr b o (s1 b o q) fun mm => by
        have z := lo.off b mm
        rw [z] at q
        cases q
      -- inner = parts_of(part)
      refine asg_call (ta_cons (te_var rfl) ta_nil) ⟨B, u, te, rfl, sBd, hru, hok, fun ai xs hai rxs => ?_⟩
      have c2 := c1.new lo (o := .tup xs) hai
      have its2 : Its K L B H (upd Hd ai (.tup xs)) (below.reverse.map fun f => (f.1, f.2.length + 1)) front := Its.new its1 hai
      have hxs : upd Hd ai (.tup xs) ai = some (.tup xs) := upd_same
      have sBe : Same B (upd Hd ai (.tup xs)) := fun b o q => Same.upd hai b o (sBd b o q)
      generalize upd Hd ai (HO.tup xs) = He at c2 its2 hxs sBe ⊢
      dsimp only
      refine set_sl (σ' := [some v, some (.ref f), some (.ref pb), some (.ref pk), some u, some (.int (is.length : Int)), some (.ref ai), v7, v8]) rfl ?_
      have lx : xs.length = te.parts.length := row_len2 rxs
      have hkn : (knowns (te, is) below).map V.int = ((below.reverse.map (·.2)).flatten.map V.int) ++ is.map V.int := by
        unfold knowns
        rw [List.map_append]
      have hcut : ∀ n : Int, n = ((knowns (te, is) below).length : Int) - (is.length : Int) → cutV ((knowns (te, is) below).map V.int) (some n) none = is.map V.int := fun n hn => by
        rw [hkn]
        refine cut_last ?_
        rw [hn, List.length_map]
        unfold knowns
        rw [List.length_append]
        dsimp only
        omega
      have hklen : Te (tCB (fun vs H Q => ∃ p ys, vs = [.ref p] ∧ (SqL K H p ys ∨ SqT K H p ys) ∧ Q (.int ys.length) H) (tCons (tVar 3) tNil)) [some v, some (.ref f), some (.ref pb), some (.ref pk), some u, some (.int (is.length : Int)), some (.ref ai), v7, v8] He (.int ((knowns (te, is) below).length : Int)) := by
        have q := te_len (K := K) (σ := [some v, some (.ref f), some (.ref pb), some (.ref pk), some u, some (.int (is.length : Int)), some (.ref ai), v7, v8]) (te := tVar 3) (te_var rfl) (.inl (SqL.of c2.hpk))
        rw [List.length_map] at q
        exact q
      have hplen : Te (tCB (fun vs H Q => ∃ p ys, vs = [.ref p] ∧ (SqL K H p ys ∨ SqT K H p ys) ∧ Q (.int ys.length) H) (tCons (tVar 6) tNil)) [some v, some (.ref f), some (.ref pb), some (.ref pk), some u, some (.int (is.length : Int)), some (.ref ai), v7, v8] He (.int (te.parts.length : Int)) := by
        have q := te_len (K := K) (σ := [some v, some (.ref f), some (.ref pb), some (.ref pk), some u, some (.int (is.length : Int)), some (.ref ai), v7, v8]) (te := tVar 6) (te_var rfl) (.inr (SqT.of hxs))
        rw [lx] at q
        exact q
      have pl := parts_le te
      refine if_any (b := needs te is) (fun H' => Cur L H H' pb pk front (knowns (te, is) below) s' ∧ Its K L B H H' (below.reverse.map fun f => (f.1, f.2.length + 1)) front ∧ H' ai = some (.tup xs)) (fun R hR => ?_) (fun Hf hf hn => ?_) fun Hf hf hn => ?_
      · -- the test
        by_cases h1 : is.length < te.parts.length
        · refine and_go (b := decide ((is.length : Int) < (te.parts.length : Int))) (tt_test (te_i0 (te_var rfl) hplen)) (fun _ => ?_) fun q => absurd (of_decide_eq_false q) (by omega)
          refine te_word hru sBe (te_var rfl) _ ?_
          refine ⟨_, rfl, (te_i0 hklen (te_var rfl) : Te _ _ _ _) _ ⟨_, rfl, pk, _, rfl, SqL.of c2.hpk, fun pn hpn => ?_⟩⟩
          have c3 := c2.new lo (o := .lst (is.map V.int)) hpn
          have its3 : Its K L B H (upd He pn (.lst (is.map V.int))) (below.reverse.map fun f => (f.1, f.2.length + 1)) front := Its.new its2 hpn
          refine ⟨te.word, pn, is, rfl, by rw [hcut _ rfl]; exact upd_same, by omega, fun H2 sH2 => ⟨_, rfl, ?_⟩⟩
          rw [hcut _ rfl] at sH2
          have eb : (!dec te.word is) = needs te is := by
            unfold needs
            rw [decide_eq_true h1, Bool.true_and]
          show R (!dec te.word is) H2
          rw [eb]
          exact hR H2 ⟨c3.same lo sH2, its3.mono fun t xs _ e => sH2 t _ e, sH2 _ _ (by rw [upd_ne (ne_of_none hxs hpn)]; exact hxs)⟩
        · have eb : needs te is = false := by
            unfold needs
            rw [decide_eq_false h1, Bool.false_and]
          rw [eb] at hR
          exact and_go (b := decide ((is.length : Int) < (te.parts.length : Int))) (tt_test (te_i0 (te_var rfl) hplen)) (fun q => absurd (of_decide_eq_true q) (by omega)) fun _ => hR He ⟨c2, its2, hxs⟩
      · -- a step down
        obtain ⟨c3, its3, hxs3⟩ := hf
        have hl : is.length < te.parts.length := by
          unfold needs at hn
          rw [Bool.and_eq_true] at hn
          exact of_decide_eq_true hn.1
        obtain ⟨ch, hch⟩ : ∃ ch, te.parts[is.length]? = some ch := ⟨_, List.getElem?_eq_getElem hl⟩
        obtain ⟨uc, huc, rpc⟩ := rp_part rxs hch
        obtain ⟨okc, okc2⟩ := ok_part hch hok hokl
        have hd := rem_down hch
        refine ⟨_, rfl, .inl ⟨rfl, _, SqL.of c3.hpb⟩, _, rfl, (te_i0 (te_var rfl) te_c : Te _ _ _ _) _ ⟨by show 2 ≤ sizeLine; decide, fun t2 ht2 => ⟨pb, _, _, rfl, rfl, by rw [upd_ne (ne_of_none c3.hpb ht2)]; exact c3.hpb, by rw [sizeLine_eq]; omega, ?_⟩⟩⟩
        have c4 := (c3.new lo (o := .tup [u, .int ((is.length : Int) + 1)]) ht2).setB lo (front ++ [V.ref t2])
        have its4 : Its K L B H (upd (upd Hf t2 (.tup [u, .int ((is.length : Int) + 1)])) pb (.lst (front ++ [V.ref t2]))) ((below.reverse.map fun f => (f.1, f.2.length + 1)) ++ [(te, is.length + 1)]) (front ++ [V.ref t2]) :=
          Its.set (K := K) (paired_snoc (x := (te, is.length + 1)) (Its.new its3 ht2) ⟨t2, u, rfl, c3.fresh ht2, (by rw [show (((te, is.length + 1) : Ex × Nat).2 : Int) = (is.length : Int) + 1 by dsimp only; omega]; exact upd_same), hru, hok, hokl⟩) (by rw [upd_ne (ne_of_none c3.hpb ht2)]; exact c3.hpb)
        have hxs4 : upd (upd Hf t2 (.tup [u, .int ((is.length : Int) + 1)])) pb (.lst (front ++ [V.ref t2])) ai = some (.tup xs) := by
          rw [upd_ne (ne_of hxs3 c3.hpb (by intro z; cases z)), upd_ne (ne_of_none hxs3 ht2)]
          exact hxs3
        generalize upd (upd Hf t2 (HO.tup [u, .int ((is.length : Int) + 1)])) pb (HO.lst (front ++ [V.ref t2])) = Hg at c4 its4 hxs4 ⊢
        refine ⟨_, rfl, .inl ⟨rfl, _, SqL.of c4.hpb⟩, (te_ixT (te_var rfl) (te_var rfl) (SqT.of hxs4) (atI_nat huc) : Te _ _ _ _) _ ⟨by show 2 ≤ sizeLine; decide, fun t3 ht3 => ⟨pb, _, _, rfl, rfl, by rw [upd_ne (ne_of_none c4.hpb ht3)]; exact c4.hpb, by rw [sizeLine_eq, List.length_append]; show front.length + 1 < _; omega, ?_⟩⟩⟩
        have c5 := (c4.new lo (o := .tup [uc, .int 0]) ht3).setB lo ((front ++ [V.ref t2]) ++ [V.ref t3])
        have its5 : Its K L B H (upd (upd Hg t3 (.tup [uc, .int 0])) pb (.lst ((front ++ [V.ref t2]) ++ [V.ref t3]))) (begunOf (ch, []) ((te, is) :: below)) ((front ++ [V.ref t2]) ++ [V.ref t3]) := by
          unfold begunOf
          rw [List.reverse_cons, List.map_append]
          exact Its.set (K := K) (paired_snoc (x := (ch, 0)) (Its.new its4 ht3) ⟨t3, uc, rfl, c4.fresh ht3, upd_same, rpc, okc, okc2⟩) (by rw [upd_ne (ne_of_none c4.hpb ht3)]; exact c4.hpb)
        refine ⟨left (ch, []) ((te, is) :: below), ?_, _, _, _, _, _, s', _, _, rfl, c5, hin, .inl ⟨(ch, []), (te, is) :: below, rfl, ?_, its5, ?_, Nat.zero_le _, ?_, ?_⟩⟩
        · unfold left
          simp only [List.map_cons, List.sum_cons, List.length_nil]
          have q : remN ch 0 = stp ch := by cases ch <;> rfl
          omega
        · have q : left (ch, []) ((te, is) :: below) < left (te, is) below := by
            unfold left
            simp only [List.map_cons, List.sum_cons, List.length_nil]
            have q : remN ch 0 = stp ch := by cases ch <;> rfl
            omega
          omega
        · unfold knowns
          simp
        · intro g hg
          rcases List.mem_cons.mp hg with z | z
          · rw [z]
            exact hl
          · exact hbel g z
        · rw [fin_down L.lk hn hch]
          exact hfin
      · -- a part is done
        obtain ⟨c3, its3, hxs3⟩ := hf
        have hcont := cont_done L.lk (s := s') hn ht
        obtain ⟨pre, hpre⟩ : ∃ pre : List Int, pre = (below.reverse.map (·.2)).flatten := ⟨_, rfl⟩
        have hk : knowns (te, is) below = pre ++ is := by
          unfold knowns
          rw [hpre]
        have hprl : pre.length ≤ 2 * below.length := by
          have q := flat_le below.reverse fun g hg => by
            have q1 := hbel g (List.mem_reverse.mp hg)
            have q2 := parts_le g.1
            omega
          rw [List.length_reverse] at q
          rw [hpre]
          exact q
        rw [hk] at c3 hklen hin hcut
        have hnb : ((pre ++ is).length : Int) - (is.length : Int) = (pre.length : Int) := by
          rw [List.length_append]
          omega
        refine asg_te (v := .int (pre.length : Int)) (by
          rw [← hnb, ← List.length_map (f := V.int) (as := pre ++ is)]
          exact te_i0 (te_len (te_var rfl) (.inl (SqL.of c3.hpk))) (te_var rfl)) ?_
        refine set_sl (σ' := [some v, some (.ref f), some (.ref pb), some (.ref pk), some u, some (.int (is.length : Int)), some (.ref ai), some (.int (pre.length : Int)), v8]) rfl ?_
        refine asg_callS ⟨_, rfl, _, rfl, _, rfl, _, rfl, pk, _, rfl, SqL.of c3.hpk, fun p2 hp2 => ⟨_, rfl, ?_⟩⟩
        have hcu : cutV ((pre ++ is).map V.int) (some (pre.length : Int)) none = is.map V.int := hcut _ hnb.symm
        rw [hcu]
        have c4 := c3.new lo (o := .lst (is.map V.int)) hp2
        have its4 : Its K L B H (upd Hf p2 (.lst (is.map V.int))) (below.reverse.map fun f => (f.1, f.2.length + 1)) front := Its.new its3 hp2
        have up2 : upd Hf p2 (.lst (is.map V.int)) p2 = some (.lst (is.map V.int)) := upd_same
        generalize upd Hf p2 (HO.lst (is.map V.int)) = Hg at c4 its4 up2 ⊢
        have sBg : Same B Hg := fun b o q => c4.fr b o (s1 b o q) fun mm => by
          have z := lo.off b mm
          rw [z] at q
          cases q
        refine ⟨B, H, s', te, is, u, p2, f, spf, rfl, sBg, hru, hok, hokl, up2, fun i hi => hin i (List.mem_append_right _ hi), ht, hn, c4.J, c4.dom, cl, lo, fun n s2 H2 hres hn2 j2 g2 => ?_, fun rr s2 d H2 hres j2 g2 d0 d1 => ?_⟩
        · have c5 := c4.asked lo j2 g2 (jx s2 H2 j2)
          have its5 := its4.asked lo g2
          dsimp only
          refine set_sl (σ' := [some v, some (.ref f), some (.ref pb), some (.ref pk), some u, some (.int (is.length : Int)), some (.ref ai), some (.int (pre.length : Int)), some (.int n)]) rfl ?_
          refine ⟨_, rfl, _, rfl, pk, _, pre.length, rfl, rfl, c5.hpk, by rw [List.length_map, List.length_append]; omega, ?_⟩
          have etake : ((pre ++ is).map V.int).take pre.length = pre.map V.int := by
            rw [← List.map_take, List.take_left]
          rw [etake]
          refine ⟨_, rfl, .inl ⟨rfl, _, SqL.of upd_same⟩, _, rfl, pk, _, _, rfl, rfl, upd_same, by rw [sizeLine_eq, List.length_map]; omega, ?_⟩
          rw [upd_twice, show pre.map V.int ++ [V.int n] = (pre ++ [n]).map V.int by rw [List.map_append]; rfl]
          have c6 := c5.setK lo (pre ++ [n])
          have its6 : Its K L B H (upd H2 pk (.lst ((pre ++ [n]).map V.int))) (below.reverse.map fun f => (f.1, f.2.length + 1)) front := Its.set (K := K) its5 c5.hpk
          have hin6 : ∀ i ∈ pre ++ [n], InR i := fun i hi => by
            rcases List.mem_append.mp hi with z | z
            · exact hin i (List.mem_append_left _ z)
            · rw [List.mem_singleton.mp z]
              exact hn2
          have hfin2 : plug L.lk below n s2 = ev L.lk s e := by
            rw [← hfin]
            show _ = thenE (cont L.lk s' te is) _
            rw [hcont, hres]
            rfl
          cases below with
          | nil =>
            have ef : front = [] := List.length_eq_zero_iff.mp hfl
            subst ef
            subst hpre
            exact ⟨0, Nat.lt_of_le_of_lt (Nat.zero_le _) bl, _, _, _, _, _, s2, _, _, rfl, c6, hin6, .inr ⟨n, rfl, rfl, rfl, hfin2⟩⟩
          | cons g below =>
            obtain ⟨eg, ig⟩ := g
            have hg := hbel (eg, ig) (by simp)
            dsimp only at hg
            refine ⟨left (eg, ig ++ [n]) below, ?_, _, _, _, _, _, s2, _, _, rfl, c6, hin6, .inl ⟨(eg, ig ++ [n]), below, rfl, ?_, ?_, ?_, ?_, fun f hf => hbel f (by simp [hf]), ?_⟩⟩
            · have q := rem_pos te is.length
              unfold left
              simp only [List.map_cons, List.sum_cons, List.length_append, List.length_cons, List.length_nil, Nat.zero_add]
              omega
            · have q : left (eg, ig ++ [n]) below < left (te, is) ((eg, ig) :: below) := by
                have q := rem_pos te is.length
                unfold left
                simp only [List.map_cons, List.sum_cons, List.length_append, List.length_cons, List.length_nil, Nat.zero_add]
                omega
              omega
            · have q : begunOf (eg, ig ++ [n]) below = ((eg, ig) :: below).reverse.map fun f => (f.1, f.2.length + 1) := by
                unfold begunOf
                simp
              rw [q]
              exact its6
            · unfold knowns
              rw [hpre]
              simp
            · show (ig ++ [n]).length ≤ eg.parts.length
              rw [List.length_append, List.length_cons, List.length_nil]
              omega
            · exact hfin2
        · refine k2 rr s2 d H2 ?_ j2 (c4.fr.trans g2) (c4.fresh d0) d1
          rw [← hfin]
          show thenE (cont L.lk s' te is) _ = _
          rw [hcont, hres]
          rfl
    · subst ei ek
      refine iteF ?_
      have hn : InR n := hin n (by simp)
      exact ret_te (te_ixL (te_var rfl) te_c (SqL.of c.hpk) (atI_nat (j := 0) rfl)) (k1 n s' Hc hev.symm hn c.J c.fr)
end
end K13

namespace K13
open PySem L2 YF
/-! ### cells by names -/
abbrev Cl := Str × Int × Int
def place : List Cl → Str → Int → Int → Option Int
  | [], _, _, _ => none
  | c :: r, nm, i, a => if c.1 = nm then (if i < 0 ∨ c.2.1 ≤ i then none else some (a + i)) else place r nm i (a + c.2.1)
theorem place_cons {c : Cl} {r : List Cl} {nm : Str} {i a : Int} : place (c :: r) nm i a = if c.1 = nm then (if i < 0 ∨ c.2.1 ≤ i then none else some (a + i)) else place r nm i (a + c.2.1) := rfl
def ClAt (K : PySem.W.Frag) (H : Hp) (c : Cl) (v : V) : Prop := ∃ t, v = .ref t ∧ SqT K H t [.str c.1, .int c.2.1, .int c.2.2]
structure CellsIn (K : PySem.W.Frag) (H : Hp) (pc : Addr) (cs : List Cl) : Prop where
  ex : ∃ xs, SqL K H pc xs ∧ Paired (ClAt K H) cs xs
theorem CellsIn.mono {K : PySem.W.Frag} {H H' : Hp} {pc : Addr} {cs : List Cl} (h : CellsIn K H pc cs) (s : Same H H') : CellsIn K H' pc cs := by
  obtain ⟨xs, h1, h2⟩ := h.ex
  exact ⟨xs, Same.sqL s h1, paired_mapP h2 fun c v ⟨t, e, q⟩ => ⟨t, e, Same.sqT s q⟩⟩
theorem paired_at {α β : Type} {F : α → β → Prop} : ∀ {l : List α} {vs : List β} {i : Nat} {v : β}, Paired F l vs → vs[i]? = some v → ∃ a, l[i]? = some a ∧ F a v
  | _, _, _, _, .nil, h => by cases h
  | _, _, 0, _, .cons a r, h => by
    cases h
    exact ⟨_, rfl, a⟩
  | _, _, i + 1, _, .cons a r, h => by
    obtain ⟨x, e, q⟩ := paired_at (i := i) r (by simpa using h)
    exact ⟨x, by simpa using e, q⟩
section
variable {P : Program} {w : World} {K : PySem.W.Frag} {mg : Str → Option Value} {base : Heap} {A : Adr}
def spCellNo (K : PySem.W.Frag) (C : Addr) : Sp := fun vs H Q E => ∃ (pc : Addr) (cs : List Cl) (nm : Str) (i : Int), vs = [.ref pc, .str nm, .int i] ∧ CellsIn K H pc cs ∧ (∀ k, place cs nm i 0 = some k → Q (.int k) H) ∧
  (place cs nm i 0 = none → ∀ d H', Same H H' → H d = none → H' d = some (.xd (errF "index")) → E (.ref C) (some d) H')
theorem ok_cell_number (T : Txt K mg A) : FnOk P w K mg base (L2N.CX P w) 3 A.a_cell_number A.d_cell_number ["cells", "name", "index"] (spCellNo K A.a_Fault) := by
  refine okN T.F_cell_number sc_cell_number (fun vs H Q E ⟨_, _, _, _, e, _⟩ => by rw [e]; rfl) (fun cdv A' outer s0 H vs Q E hr h => ?_)
  obtain ⟨pc, cs, nm, i, rfl, hc, k1, k2⟩ := h
  refine ⟨_, pss_cons (ps_set (i := 3) sc_cell_number.nd rfl (Or.inl rfl) (pe_int))
  (pss_cons (ps_for PassesOwn.leaving rfl (pi_list (pv 0)) (pg_tup (by rfl) (pgs_cons (pg_name (i := 4) sc_cell_number.nd rfl (Or.inl rfl)) (pgs_cons (pg_name (i := 5) sc_cell_number.nd rfl (Or.inl rfl)) (pgs_cons (pg_name (i := 6) sc_cell_number.nd rfl (Or.inl rfl)) pgs_nil))))
  (pss_cons (ps_if (pt_cmpR op_eq (pv 4) (pv 1) (nomark _))
  (pss_cons (ps_if (PW.pt (pw_or (pt_cmpR op_lt (pv 2) (pe_int) (nomark _)) (pw_or1 (pt_cmpR op_ge (pv 2) (pv 5) (nomark _)))))
  (pss_one (L2N.ps_raise rfl (L2N.takes_of rfl rfl rfl rfl) (pmkN_oex T.Fault_o T.Fault_i T.Fault_t (ok_Fault___init__ T) (hr.mono (by decide)) T.b_Fault___init__ pass0 (by exact rfl) T.g_Fault (pa_cons (pe_str) pa_nil))))
  (pss_nil))
  (pss_one (ps_ret (pe_op op_add (pv 3) (pv 2)))))
  (pss_nil))
  (pss_one (ps_aug (i := 3) sc_cell_number.nd rfl (Or.inl rfl) (pv 5) ip_add))))
  (pss_one (L2N.ps_raise rfl (L2N.takes_of rfl rfl rfl rfl) (pmkN_oex T.Fault_o T.Fault_i T.Fault_t (ok_Fault___init__ T) (hr.mono (by decide)) T.b_Fault___init__ pass0 (by exact rfl) T.g_Fault (pa_cons (pe_str) pa_nil))))), ?_⟩
  obtain ⟨xs, hx, hp⟩ := hc.ex
  refine asg_te (v := .int 0) te_c ?_
  refine set_sl (σ' := [some (.ref pc), some (.str nm), some (.int i), some (.int 0), none, none, none]) rfl ?_
  refine ⟨_, rfl, pc, rfl, ⟨_, hx⟩, for_list (K := K) (a := pc) (xs := xs) (fun j σ H' => ∃ (a : Int) (v4 v5 v6 : Option V), σ = [some (.ref pc), some (.str nm), some (.int i), some (.int a), v4, v5, v6] ∧ H' = H ∧ place cs nm i 0 = place (cs.drop j) nm i a) ⟨0, _, _, _, rfl, rfl, rfl⟩ (fun j σ H' _ ⟨_, _, _, _, _, e, _⟩ => by rw [e]; exact hx) ?_ ?_⟩
  · rintro j y σ H' hj ⟨a, v4, v5, v6, rfl, rfl, ep⟩
    obtain ⟨c, hcj, t, rfl, ht⟩ := paired_at hp hj
    have ed : cs.drop j = c :: cs.drop (j + 1) := List.drop_eq_getElem?_toList_append.trans (by rw [hcj]; rfl)
    rw [ed] at ep
    refine ⟨t, _, rfl, ht, rfl, _, _, rfl, _, _, rfl, _, _, rfl, rfl, ?_⟩
    dsimp only [gName]
    refine set_sl (σ' := [some (.ref pc), some (.str nm), some (.int i), some (.int a), some (.str c.1), some (.int c.2.1), some (.int c.2.2)]) rfl ?_
    rw [place_cons] at ep
    refine if_seq (tt_test (te_eq (te_var rfl) (te_var rfl) rfl)) (fun h => ?_) fun h => ?_
    · rw [deq_str] at h
      rw [if_pos (of_decide_eq_true h)] at ep
      refine if_seq (tt_or (tt_test (te_i0 (te_var rfl) te_c)) fun _ => tt_test (te_i0 (te_var rfl) (te_var rfl))) (fun h2 => ?_) fun h2 => ?_
      · have h3 : i < 0 ∨ c.2.1 ≤ i := by simpa using h2
        rw [if_pos h3] at ep
        exact raise_go (fun R q => q) (k2 ep)
      · have h3 : ¬ (i < 0 ∨ c.2.1 ≤ i) := by simpa using h2
        rw [if_neg h3] at ep
        exact ret_te (te_i0 (te_var rfl) (te_var rfl)) (k1 _ ep)
    · rw [deq_str] at h
      rw [if_neg (of_decide_eq_false h)] at ep
      refine ⟨_, rfl, _, rfl, _, _, rfl, rfl, ?_⟩
      exact ⟨_, _, _, _, rfl, rfl, ep⟩
  · rintro σ H' ⟨a, v4, v5, v6, rfl, rfl, ep⟩
    have ed : cs.drop xs.length = [] := List.drop_of_length_le (by rw [paired_len hp]; exact Nat.le_refl _)
    rw [ed] at ep
    dsimp only
    exact raise_go (fun R q => q) (k2 ep)
end
end K13

namespace K13
open PySem L2 YF NdefX
theorem set_nil : True := trivial
/-! ### a run: its state, how it lies -/
abbrev Kv := List (Key × V)
structure RS where
  loc : Kv
  rds : Kv
  wrs : Kv
  ltr : List Int
/-- places of a run -/
structure Pl where
  self : Addr
  dx : Addr
  pc : Addr
  pm : Addr
  dl : Addr
  dr : Addr
  dw : Addr
  ll : Addr
def fldR (p : Pl) : List (Str × V) := [("_cells", .ref p.pc), ("_memory", .ref p.pm), ("locals_now", .ref p.dl), ("reads", .ref p.dr), ("writes", .ref p.dw), ("later", .ref p.ll)]
structure RunAt (K : PySem.W.Frag) (C : Addr) (H : Hp) (p : Pl) (cs : List Cl) (ms : List Int) (s : RS) : Prop where
  ob : H p.self = some (.ins C p.dx (fldR p))
  cel : CellsIn K H p.pc cs
  mem : H p.pm = some (.lst (ms.map V.int))
  loc : H p.dl = some (.dK s.loc)
  rds : H p.dr = some (.dK s.rds)
  wrs : H p.dw = some (.dK s.wrs)
  ltr : H p.ll = some (.lst (s.ltr.map V.int))
  n1 : p.dl ≠ p.dr
  n2 : p.dw ≠ p.dr
  n3 : p.dl ≠ p.dw
def total : List Cl → Int
  | [] => 0
  | c :: r => c.2.1 + total r
theorem place_lt : ∀ {cs : List Cl} {nm : Str} {i a k : Int}, (∀ c ∈ cs, 0 ≤ c.2.1) → place cs nm i a = some k → a ≤ k ∧ k < a + total cs
  | [], _, _, _, _, _, h => by cases h
  | c :: r, nm, i, a, k, h, e => by
    rw [place_cons] at e
    have h0 := h c (by simp)
    have tr : ∀ r : List Cl, (∀ c ∈ r, 0 ≤ c.2.1) → 0 ≤ total r := by
      intro r
      induction r with
      | nil => intro _; exact Int.le_refl 0
      | cons d r ih =>
        intro q
        have q1 := q d (by simp)
        have q2 := ih fun x hx => q x (by simp [hx])
        simp only [total]
        omega
    have h1 := tr r fun x hx => h x (by simp [hx])
    by_cases q : c.1 = nm
    · rw [if_pos q] at e
      by_cases q2 : i < 0 ∨ c.2.1 ≤ i
      · rw [if_pos q2] at e
        cases e
      · rw [if_neg q2] at e
        cases e
        simp only [total]
        omega
    · rw [if_neg q] at e
      obtain ⟨h3, h4⟩ := place_lt (fun x hx => h x (by simp [hx])) e
      simp only [total]
      omega
/-- a dict of cells' numbers below N and their values -/
def mkN (p : Nat × Int) : Key × V := (.inl (p.1 : Int), .int p.2)
def NumD (N : Nat) (l : Kv) : Prop := ∃ js : List (Nat × Int), l = js.map mkN ∧ (js.map (·.1)).Nodup ∧ ∀ p ∈ js, p.1 < N ∧ InR p.2
theorem nodup_len : ∀ {N : Nat} {l : List Nat}, l.Nodup → (∀ k ∈ l, k < N) → l.length ≤ N := by
  intro N
  induction N with
  | zero =>
    intro l _ h
    cases l with
    | nil => exact Nat.le_refl 0
    | cons a r => exact absurd (h a (by simp)) (Nat.not_lt_zero _)
  | succ N ih =>
    intro l nd h
    have h2 := ih (l := l.erase N) (nd.erase _) fun k hk => by
      obtain ⟨hne, hm⟩ := (List.Nodup.mem_erase_iff nd).mp hk
      have := h k hm
      omega
    have h3 : l.length ≤ (l.erase N).length + 1 := by
      by_cases m : N ∈ l
      · rw [List.length_erase_of_mem m]
        omega
      · rw [List.erase_of_not_mem m]
        omega
    omega
theorem NumD.len {N : Nat} {l : Kv} (h : NumD N l) : l.length ≤ N := by
  obtain ⟨js, rfl, nd, h⟩ := h
  have := nodup_len nd fun k hk => by
    obtain ⟨q, hq, rfl⟩ := List.mem_map.mp hk
    exact (h q hq).1
  rw [List.length_map] at this ⊢
  exact this
theorem valV_mem : ∀ {l : Kv} {k : Key} {v : V}, valV l k = some v → (k, v) ∈ l
  | [], k, v, h => by cases h
  | (a, u) :: r, k, v, h => by
    by_cases e : a = k
    · rw [valV_pos e] at h
      cases h
      rw [← e]
      exact List.mem_cons_self
    · rw [valV_neg e] at h
      exact List.mem_cons_of_mem _ (valV_mem h)
theorem NumD.get {N : Nat} {l : Kv} (h : NumD N l) {k : Key} {v : V} (e : valV l k = some v) : ∃ n : Int, v = .int n ∧ InR n := by
  obtain ⟨js, rfl, nd, h⟩ := h
  obtain ⟨q, hq, e2⟩ := List.mem_map.mp (valV_mem e)
  cases e2
  exact ⟨_, rfl, (h q hq).2⟩
theorem mkN_key {p : Nat × Int} {j : Nat} : (mkN p).1 = (.inl (j : Int) : Key) ↔ p.1 = j := by
  constructor
  · intro h
    have : (p.1 : Int) = (j : Int) := Sum.inl.inj h
    omega
  · rintro rfl
    rfl
theorem NumD.put {N : Nat} {l : Kv} (h : NumD N l) {j : Nat} {n : Int} (hj : j < N) (hn : InR n) : NumD N (putK l (.inl (j : Int) : Key) (.int n)) := by
  obtain ⟨js, rfl, nd, h⟩ := h
  unfold putK
  by_cases q : ((js.map mkN).any fun kv => decide (kv.1 = (.inl (j : Int) : Key))) = true
  · rw [if_pos q]
    refine ⟨js.map fun p => if p.1 = j then (p.1, n) else p, ?_, ?_, ?_⟩
    · rw [List.map_map, List.map_map]
      refine List.map_congr_left fun p _ => ?_
      show (if (mkN p).1 = (.inl (j : Int) : Key) then ((mkN p).1, V.int n) else mkN p) = mkN (if p.1 = j then (p.1, n) else p)
      by_cases e : p.1 = j
      · rw [if_pos (mkN_key.mpr e), if_pos e]
        rfl
      · rw [if_neg fun z => e (mkN_key.mp z), if_neg e]
    · rw [List.map_map]
      have e : ((fun p : Nat × Int => p.1) ∘ fun p => if p.1 = j then (p.1, n) else p) = fun p => p.1 := by
        funext p
        show (if p.1 = j then (p.1, n) else p).1 = p.1
        by_cases e : p.1 = j
        · rw [if_pos e]
        · rw [if_neg e]
      rw [e]
      exact nd
    · intro p hp
      obtain ⟨r, hr, rfl⟩ := List.mem_map.mp hp
      by_cases e : r.1 = j
      · rw [if_pos e]
        exact ⟨(h r hr).1, hn⟩
      · rw [if_neg e]
        exact h r hr
  · rw [if_neg q]
    refine ⟨js ++ [(j, n)], by rw [List.map_append]; rfl, ?_, fun p hp => ?_⟩
    · rw [List.map_append, List.nodup_append]
      refine ⟨nd, by simp, fun a ha b hb e => q ?_⟩
      have hb : b = j := by simpa using hb
      obtain ⟨r, hr, er⟩ := List.mem_map.mp ha
      exact List.any_eq_true.mpr ⟨mkN r, List.mem_map.mpr ⟨r, hr, rfl⟩, decide_eq_true (mkN_key.mpr (by rw [er, e, hb]))⟩
    · rcases List.mem_append.mp hp with hp | hp
      · exact h p hp
      · rw [List.mem_singleton.mp hp]
        exact ⟨hj, hn⟩
/-- the value of a cell: as written, or as it stands, and then it was read -/
def rd (ms : List Int) (s : RS) (k : Int) : Rz × RS := match valV s.wrs (.inl k : Key) with
  | some (.int n) => (.ok n, s)
  | _ => (.ok (ms.getD k.toNat 0), { s with rds := putK s.rds (.inl k : Key) (.int (ms.getD k.toNat 0)) })
def lkR (cs : List Cl) (ms : List Int) : RS → Ex → List Int → Rz × RS := fun s e is => match e with
  | .var _ (.str x) => (match valV s.loc (.inr x : Key) with
    | some (.int n) => (.ok n, s)
    | _ => (.er "", s))
  | .cell nm _ => (match place cs nm (is.headD 0) 0 with
    | some k => rd ms s k
    | none => (.er "index", s))
  | _ => (.er "", s)
def okLR (names : List Str) : Ex → Prop
  | .var w (.str x) => w = "local" ∧ x ∈ names
  | .cell _ _ => True
  | _ => False
/-- what is so of a run's state -/
structure OkS (names : List Str) (cs : List Cl) (ms : List Int) (s : RS) : Prop where
  loc : ∀ x ∈ names, ∃ n, valV s.loc (.inr x : Key) = some (.int n) ∧ InR n
  rds : NumD ms.length s.rds
  wrs : NumD ms.length s.wrs
  ltr : ∀ n ∈ s.ltr, InR n
  pos : ∀ c ∈ cs, 0 ≤ c.2.1
  len : (ms.length : Int) = total cs
  big : ms.length ≤ 1000
  mem : ∀ m ∈ ms, InR m
  lc : s.loc.length ≤ 1000
section
variable {P : Program} {w : World} {K : PySem.W.Frag} {mg : Str → Option Value} {base : Heap} {A : Adr}
theorem te_din {σ : L2.St} {H : Hp} {ty td : TE} {i : Int} {p : Addr} {kvs : List (Key × V)} (ha : Te ty σ H (.int i)) (hb : Te td σ H (.ref p)) (h : H p = some (.dK kvs)) : Te (tDIn ty td) σ H (.bl (valV kvs (.inl i : Key)).isSome) := fun Q q => ha _ (hb _ ⟨p, _, rfl, DGet.k (k := (.inl i : Key)) h, q⟩)
theorem valV_self (l : Kv) (k : Key) (v : V) : valV (putK l k v) k = some v := by
  rw [valV_put, if_pos rfl]
def spRd (K : PySem.W.Frag) (C : Addr) : Sp := fun vs H Q _ => ∃ (p : Pl) (cs : List Cl) (ms : List Int) (s : RS) (names : List Str) (k : Nat), vs = [.ref p.self, .int (k : Int)] ∧ RunAt K C H p cs ms s ∧ OkS names cs ms s ∧ k < ms.length ∧
  ∀ n s' H', rd ms s k = (.ok n, s') → InR n → (∀ b, b ≠ p.dr → H' b = H b) → H' p.dr = some (.dK s'.rds) → Q (.int n) H'
theorem ok_Run__read (T : Txt K mg A) : FnOk P w K mg base CX0 1 A.a_Run__read A.d_Run__read ["self", "cell"] (spRd K A.a_Run) := by
  refine T.F_Run__read.ok sc_Run__read (fun vs H Q E ⟨_, _, _, _, _, _, e, _⟩ => by rw [e]; rfl) (fun cdv A' outer s0 H vs Q E hr h => ?_)
  obtain ⟨p, cs, ms, s, names, k, rfl, R, O, hk, q⟩ := h
  refine ⟨_, pss_cons (ps_if (pt_cmp (pc_din (hu_of hr) (pv 1) (pe_fld (pv 0) rfl)))
  (pss_one (ps_ret (pe_dget (hu_of hr) (pe_fld (pv 0) rfl) (pv 1) (fun _ _ => rfl))))
  (pss_nil))
  (pss_cons (ps_dput (hu_of hr) (pe_fld (pv 0) rfl) (pv 1) (pe_ix ix_list (pe_fld (pv 0) rfl) (pv 1) (fun _ _ => rfl)) rfl)
  (pss_one (ps_ret (pe_dget (hu_of hr) (pe_fld (pv 0) rfl) (pv 1) (fun _ _ => rfl))))), ?_⟩
  have fld : ∀ {H' : Hp} {f : Str} {v : V}, H' p.self = some (.ins A.a_Run p.dx (fldR p)) → NoAttr K A.a_Run f → (fldR p).lookup f = some v → Te (tFld K (tVar 0) f) (L2.start ["self", "cell"] [.ref p.self, .int (k : Int)]) H' v := fun h n l => te_fld (te_var rfl) h T.cl_Run n l
  have lw : (fldR p).lookup ("writes" : Str) = some (.ref p.dw) := rfl
  have lr : (fldR p).lookup ("reads" : Str) = some (.ref p.dr) := rfl
  have lm : (fldR p).lookup ("_memory" : Str) = some (.ref p.pm) := rfl
  unfold rd at q
  refine if_seq (tt_b (te_din (te_var rfl) (fld R.ob T.no_Run_writes lw) R.wrs)) (fun h => ?_) fun h => ?_
  · obtain ⟨v, ev⟩ := Option.isSome_iff_exists.mp h
    obtain ⟨n, rfl, hn⟩ := O.wrs.get ev
    rw [ev] at q
    exact ret_te (te_dgetI (fld R.ob T.no_Run_writes lw) (te_var rfl) R.wrs ev) (q n s H rfl hn (fun _ _ => rfl) R.rds)
  · have ev : valV s.wrs (.inl (k : Int) : Key) = none := by
      cases e : valV s.wrs (.inl (k : Int) : Key) with
      | none => rfl
      | some v =>
        rw [e] at h
        cases h
    rw [ev] at q
    have e1 : ms.getD ((k : Int)).toNat 0 = ms[k] := by
      rw [List.getD_eq_getElem?_getD, Int.toNat_natCast, List.getElem?_eq_getElem hk]
      rfl
    have hn : InR ms[k] := O.mem _ (List.getElem_mem hk)
    refine sq_go (st_dputI (te_ixL (fld R.ob T.no_Run__memory lm) (te_var rfl) (SqL.of R.mem) (atI_nat (by rw [List.getElem?_map, List.getElem?_eq_getElem hk]; rfl))) (fld R.ob T.no_Run_reads lr) (te_var rfl) R.rds (by have := O.rds.len; have := O.big; rw [sizeLine_eq]; omega) ?_)
    have nsd : p.self ≠ p.dr := fun z => by
      have h1 := R.ob
      rw [z, R.rds] at h1
      cases h1
    refine ret_te (te_dgetI (fld (by rw [upd_ne nsd]; exact R.ob) T.no_Run_reads lr) (te_var rfl) upd_same (valV_self _ _ _)) ?_
    exact q _ _ _ (by rw [e1]) hn (fun b hb => upd_ne hb) (by rw [← e1]; exact upd_same)
end
end K13

namespace K13
open PySem L2 YF NdefX
abbrev sLook : Stmt := (defBody s_Run__value).getD 0 (.Pass ⟨0, 0, 0, 0⟩)
theorem scLook : NScope ["part", "inner", "self"] ["part", "inner"] ["self"] (C8.fnScope sLook) := nscope_by (by decide +kernel)
def pLook : Pos := match sLook with
  | .FunctionDef _ _ _ _ _ _ _ _ _ p => p
  | _ => default
theorem rd_rng {names : List Str} {cs : List Cl} {ms : List Int} {s : RS} (O : OkS names cs ms s) {k n : Int} {s' : RS} (h : rd ms s k = (.ok n, s')) : InR n := by
  unfold rd at h
  cases q : valV s.wrs (.inl k : Key) with
  | none =>
    rw [q] at h
    have h := (congrArg Prod.fst h : Rz.ok _ = Rz.ok _)
    cases h
    rw [List.getD_eq_getElem?_getD]
    cases q2 : ms[k.toNat]? with
    | none => exact ⟨by decide, by decide⟩
    | some m => exact O.mem m (List.mem_of_getElem? q2)
  | some v =>
    obtain ⟨m, rfl, hm⟩ := O.wrs.get q
    rw [q] at h
    have h := (congrArg Prod.fst h : Rz.ok _ = Rz.ok _)
    cases h
    exact hm
theorem rd_ok {names : List Str} {cs : List Cl} {ms : List Int} {s : RS} (O : OkS names cs ms s) {k : Nat} (hk : k < ms.length) : ∃ n s', rd ms s k = (.ok n, s') ∧ OkS names cs ms s' ∧ s'.loc = s.loc ∧ s'.wrs = s.wrs ∧ s'.ltr = s.ltr := by
  unfold rd
  cases q : valV s.wrs (.inl (k : Int) : Key) with
  | none =>
    refine ⟨_, _, rfl, ⟨O.loc, ?_, O.wrs, O.ltr, O.pos, O.len, O.big, O.mem, O.lc⟩, rfl, rfl, rfl⟩
    refine O.rds.put hk ?_
    rw [List.getD_eq_getElem?_getD, Int.toNat_natCast, List.getElem?_eq_getElem hk]
    exact O.mem _ (List.getElem_mem hk)
  | some v =>
    obtain ⟨m, rfl, hm⟩ := O.wrs.get q
    exact ⟨_, _, rfl, O, rfl, rfl, rfl⟩
def spLk (K : PySem.W.Frag) (C Cf : Addr) (p : Pl) (names : List Str) (cs : List Cl) (ms : List Int) : List (Option V) → Sp := fun ws vs H Q E => ∃ (s : RS) (B : Hp) (e : Ex) (is : List Int) (v : V) (pi : Addr), ws = [some (.ref p.self)] ∧ vs = [v, .ref pi] ∧ Same B H ∧ Rp K B e.d [v] ∧ okLR names e ∧
  H pi = some (.lst (is.map V.int)) ∧ is.length = e.parts.length ∧ RunAt K C H p cs ms s ∧ OkS names cs ms s ∧ (∀ n s' H', lkR cs ms s e is = (.ok n, s') → InR n → (∀ b, b ≠ p.dr → H' b = H b) → H' p.dr = some (.dK s'.rds) → Q (.int n) H') ∧
  (∀ r s' d H', lkR cs ms s e is = (.er r, s') → s' = s → Same H H' → H d = none → H' d = some (.xd (errF r)) → E (.ref Cf) (some d) H')
section
variable {P : Program} {w : World} {K : PySem.W.Frag} {mg : Str → Option Value} {base : Heap} {A : Adr}
theorem go_cellno {σ : L2.St} {H : Hp} {ta t : TA} {C pc : Addr} {nm : Str} {i : Int} {E : L2.St → XK} {R : List V → Hp → Prop} (ha : Ta ta σ H [.ref pc, .str nm, .int i]) (h : spCellNo K C [.ref pc, .str nm, .int i] H (fun v H' => t σ H' fun vs H2 => R (v :: vs) H2) (E σ)) : tCons (tCallS (spCellNo K C) E ta) t σ H R := ha _ h
theorem nok_look (T : Txt K mg A) (p : Pl) (names : List Str) (cs : List Cl) (ms : List Int) (qual : Str) (cl : List (Str × Addr)) (c f : Addr) :
    NOk P w K mg base (L2N.CX P w) 5 f (NF.of sLook "look" qual cl c) ["part", "inner"] ["self"] (spLk K A.a_Run A.a_Fault p names cs ms) := by
  refine nok_of scLook (fun _ _ _ us hl => match us, hl with | [_, _], _ => rfl) (fun ws vs H Q E ⟨_, _, _, _, _, _, _, e, _⟩ => by rw [e]; rfl) (fun A' outer s0 H vs ws Q E hr hf hc hw h => ?_)
  obtain ⟨s, B, e, is, v, pi, rfl, rfl, s1, r, okl, hp, hl, R, O, k1, k2⟩ := h
  refine ⟨_, pss_cons (ps_if (pt_cmpR op_eq (pe_ix ix_tup (pv 0) (pe_int) (fun _ _ => rfl)) (pe_str) (nomark _)) (pss_one (ps_ret (pe_dget (hu_of hr) (pe_fld (pv 2) rfl) (pe_ix ix_tup (pv 0) (pe_int) (fun _ _ => rfl)) (fun _ _ => rfl)))) pss_nil)
    (pss_one (ps_ret (pe_meth (pv 2) T.cl_Run T.m_Run__read (ok_Run__read T) (hr.mono (by decide)) T.b_Run__read .nil pass0 (pa_cons (pe_callS (ok_cell_number T) (hr.mono (by decide)) rfl T.g_cell_number T.F_cell_number.kp T.b_cell_number (fun σ => L2N.passAt (L2N.takes_of rfl rfl rfl rfl) σ) (pa_cons (pe_fld (pv 2) rfl) (pa_cons (pe_ix ix_tup (pv 0) (pe_int) (fun _ _ => rfl)) (pa_cons (pe_ix ix_list (pv 1) (pe_int) (fun _ _ => rfl)) pa_nil)))) pa_nil)))), ?_⟩
  refine set_sl (σ' := [some v, some (.ref pi), some (.ref p.self)]) rfl ?_
  have fld : ∀ {H' : Hp} {σ : L2.St} {f : Str} {v : V}, σ[2]? = some (some (.ref p.self)) → H' p.self = some (.ins A.a_Run p.dx (fldR p)) → NoAttr K A.a_Run f → (fldR p).lookup f = some v → Te (tFld K (tVar 2) f) σ H' v := fun h2 h n l => te_fld (te_var h2) h T.cl_Run n l
  have lc : (fldR p).lookup ("_cells" : Str) = some (.ref p.pc) := rfl
  have ll : (fldR p).lookup ("locals_now" : Str) = some (.ref p.dl) := rfl
  cases e with
  | num n => exact okl.elim
  | one w a => exact okl.elim
  | two w a b => exact okl.elim
  | var wd x =>
    cases x with
    | str x =>
      obtain ⟨ew, hx⟩ := okl
      obtain ⟨n, en, hn⟩ := O.loc x hx
      obtain ⟨t, xs, rfl, h1, h2, h3⟩ := rp_tup r
      obtain ⟨x1, r1, rfl, q1, q2⟩ := rp_cons h3
      obtain ⟨x2, r2, rfl, q3, q4⟩ := rp_cons q2
      cases q1
      cases q3
      cases q4
      have ht := Same.sqT s1 h1
      refine if_seq (tt_test (te_eq (te_ixT (te_var rfl) te_c ht (atI_nat (j := 0) rfl)) te_c rfl)) (fun _ => ?_) fun h => absurd (congrArg V.str ew) (of_decide_eq_false h)
      refine ret_te (te_dgetS (fld rfl R.ob T.no_Run_locals_now ll) (te_ixT (te_var rfl) te_c ht (atI_nat (j := 1) rfl)) R.loc en) (k1 n s H ?_ hn (fun _ _ => rfl) R.rds)
      show (match valV s.loc (.inr x : Key) with | some (.int n) => (Rz.ok n, s) | _ => (Rz.er "", s)) = _
      rw [en]
    | _ => exact okl.elim
  | cell nm a =>
    obtain ⟨t, xs, rfl, h1, h2, h3⟩ := rp_tup r
    obtain ⟨x1, r1, rfl, q1, q2⟩ := rp_cons h3
    obtain ⟨x2, r2, rfl, q3, q4⟩ := rp_cons q2
    cases q1
    cases q3
    have ht := Same.sqT s1 h1
    obtain ⟨i, rfl⟩ : ∃ i, is = [i] := by
      match is, hl with
      | [i], _ => exact ⟨i, rfl⟩
    refine if_seq (tt_test (te_eq (te_ixT (te_var rfl) te_c ht (atI_nat (j := 0) rfl)) te_c rfl)) (fun h => absurd (V.str.inj (of_decide_eq_true h)) (by decide +kernel)) fun _ => ?_
    refine ⟨_, rfl, p.self, p.dx, fldR p, rfl, R.ob, rfl, ?_⟩
    refine go_cellno (pc := p.pc) (nm := nm) (i := i) ?_ ?_
    · exact ta_cons (fld rfl R.ob T.no_Run__cells lc) (ta_cons (te_ixT (te_var rfl) te_c ht (atI_nat (j := 1) rfl)) (ta_cons (te_ixL (te_var rfl) te_c (SqL.of hp) (atI_nat (j := 0) rfl)) ta_nil))
    have elk : lkR cs ms s (.cell nm a) [i] = (match place cs nm i 0 with | some k => rd ms s k | none => (Rz.er "index", s)) := rfl
    refine ⟨p.pc, cs, nm, i, rfl, R.cel, fun k hk => ?_, fun hk d H' g d0 d1 => k2 "index" s d H' (by rw [elk, hk]) rfl g d0 d1⟩
    obtain ⟨a0, a1⟩ := place_lt O.pos hk
    have hm := O.len
    obtain ⟨kn, rfl⟩ : ∃ kn : Nat, k = kn := ⟨k.toNat, by omega⟩
    have hkn : kn < ms.length := by omega
    exact ⟨p, cs, ms, s, names, kn, rfl, R, O, hkn, fun n s' H' hrd hn hf hr => k1 n s' H' (by rw [elk, hk]; exact hrd) hn hf hr⟩
end
/-! ### _value -/
def nmV : Nat → Nat → Str := fun _ _ => (PyProof.Rows.envOfC "Run._value" (defScope s_Run__value) 0 0 .none).qual ++ "look"
def TabV (A : Adr) : List NTab := [(A.t_Run__value, nmV)]
/-- nothing but tables and what stands at X is otherwise -/
def Kp (X : List Addr) (H H' : Hp) : Prop := ∀ b o, b ∉ X → H b = some o → (∀ ps, o ≠ .tbl ps) → H' b = some o
def spVal (K : PySem.W.Frag) (A : Adr) : Sp := fun vs H Q E => ∃ (p : Pl) (B : Hp) (e : Ex) (v : V) (names : List Str) (cs : List Cl) (ms : List Int) (s : RS), vs = [.ref p.self, v] ∧ Same B H ∧ B p.dr = none ∧ (∀ b ps, B b ≠ some (.tbl ps)) ∧ Rp K B e.d [v] ∧ e.ok ∧ okEx (okLR names) e ∧ stp e ≤ 100000 ∧ RunAt K A.a_Run H p cs ms s ∧ OkS names cs ms s ∧ TabsN (TabV A) H ∧
  (∀ n s' H', ev (lkR cs ms) s e = (.ok n, s') → InR n → Kp [p.dr] H H' → H' p.dr = some (.dK s'.rds) → TabsN (TabV A) H' → Q (.int n) H') ∧
  (∀ r s' d H', ev (lkR cs ms) s e = (.er r, s') → Kp [p.dr] H H' → H' p.dr = some (.dK s'.rds) → TabsN (TabV A) H' → H d = none → H' d = some (.xd (errF r)) → E (.ref A.a_Fault) (some d) H')
theorem ext_sqL {K : PySem.W.Frag} {H H' : Hp} {a : Addr} {xs : List V} (s : LamX.ExtN H H') (h : SqL K H a xs) : SqL K H' a xs := by
  rcases h with (h | ⟨o, h⟩) | h
  · exact .inl (.inl (s _ _ h fun ps q => by cases q))
  · exact .inl (.inr ⟨o, s _ _ h fun ps q => by cases q⟩)
  · exact .inr h
theorem ext_sqT {K : PySem.W.Frag} {H H' : Hp} {a : Addr} {xs : List V} (s : LamX.ExtN H H') (h : SqT K H a xs) : SqT K H' a xs := by
  rcases h with (h | ⟨o, h⟩) | h
  · exact .inl (.inl (s _ _ h fun ps q => by cases q))
  · exact .inl (.inr ⟨o, s _ _ h fun ps q => by cases q⟩)
  · exact .inr h
theorem fn_ex {ι : Type} {P : Program} {w : World} {K : PySem.W.Frag} {mg : Str → Option Value} {base : Heap} {CX : CXT} {k : Nat} {f : Addr} {fd : FuncData} {ps : List Str} {sp : ι → Sp} (F : ∀ i, FnOk P w K mg base CX k f fd ps (sp i)) : FnOk P w K mg base CX k f fd ps (fun vs H Q E => ∃ i, sp i vs H Q E) :=
  ⟨fun vs H Q E ⟨i, h⟩ => (F i).len vs H Q E h, fun A' outer s H args us vs Q E hr e0 hb r ⟨i, h⟩ => (F i).run A' outer s H args us vs Q E hr e0 hb r h⟩
theorem CellsIn.ext {K : PySem.W.Frag} {H H' : Hp} {pc : Addr} {cs : List Cl} (h : CellsIn K H pc cs) (s : LamX.ExtN H H') : CellsIn K H' pc cs := by
  obtain ⟨xs, h1, h2⟩ := h.ex
  exact ⟨xs, ext_sqL s h1, paired_mapP h2 fun c v ⟨t, e, q⟩ => ⟨t, e, ext_sqT s q⟩⟩
theorem RunAt.ext {K : PySem.W.Frag} {C : Addr} {H H' : Hp} {p : Pl} {cs : List Cl} {ms : List Int} {s : RS} (h : RunAt K C H p cs ms s) (x : LamX.ExtN H H') : RunAt K C H' p cs ms s :=
  ⟨x _ _ h.ob fun ps z => (by cases z), h.cel.ext x, x _ _ h.mem fun ps z => (by cases z), x _ _ h.loc fun ps z => (by cases z), x _ _ h.rds fun ps z => (by cases z), x _ _ h.wrs fun ps z => (by cases z), x _ _ h.ltr fun ps z => (by cases z), h.n1, h.n2, h.n3⟩
theorem lkR_ok {names : List Str} {cs : List Cl} {ms : List Int} {s : RS} (O : OkS names cs ms s) (e : Ex) (is : List Int) : OkS names cs ms (lkR cs ms s e is).2 ∧ (lkR cs ms s e is).2.loc = s.loc ∧ (lkR cs ms s e is).2.wrs = s.wrs ∧ (lkR cs ms s e is).2.ltr = s.ltr := by
  cases e with
  | var w x =>
    cases x with
    | str x =>
      show OkS names cs ms (match valV s.loc (.inr x : Key) with | some (.int n) => (Rz.ok n, s) | _ => (Rz.er "", s) : Rz × RS).2 ∧ _
      have e1 : (lkR cs ms s (.var w (.str x)) is).2 = s := by
        show (match valV s.loc (.inr x : Key) with | some (.int n) => (Rz.ok n, s) | _ => (Rz.er "", s) : Rz × RS).2 = s
        split <;> rfl
      have e2 : (match valV s.loc (.inr x : Key) with | some (.int n) => (Rz.ok n, s) | _ => (Rz.er "", s) : Rz × RS).2 = s := e1
      rw [e2, e1]
      exact ⟨O, rfl, rfl, rfl⟩
    | _ => exact ⟨O, rfl, rfl, rfl⟩
  | cell nm a =>
    have e1 : lkR cs ms s (.cell nm a) is = (match place cs nm (is.headD 0) 0 with | some k => rd ms s k | none => (Rz.er "index", s)) := rfl
    rw [e1]
    cases q : place cs nm (is.headD 0) 0 with
    | none => exact ⟨O, rfl, rfl, rfl⟩
    | some k =>
      obtain ⟨a0, a1⟩ := place_lt O.pos q
      have hm := O.len
      obtain ⟨kn, rfl⟩ : ∃ kn : Nat, k = kn := ⟨k.toNat, by omega⟩
      obtain ⟨n, s', e2, O2, q1, q2, q3⟩ := rd_ok O (show kn < ms.length by omega)
      show OkS names cs ms (rd ms s kn).2 ∧ (rd ms s kn).2.loc = s.loc ∧ (rd ms s kn).2.wrs = s.wrs ∧ (rd ms s kn).2.ltr = s.ltr
      rw [e2]
      exact ⟨O2, q1, q2, q3⟩
  | _ => exact ⟨O, rfl, rfl, rfl⟩
theorem lkR_rng {names : List Str} {cs : List Cl} {ms : List Int} {s : RS} (O : OkS names cs ms s) {e : Ex} {is : List Int} {n : Int} (okl : okLR names e) (h : (lkR cs ms s e is).1 = .ok n) : InR n := by
  cases e with
  | var w x =>
    cases x with
    | str x =>
      obtain ⟨_, hx⟩ := okl
      obtain ⟨m, em, hm⟩ := O.loc x hx
      have h : (match valV s.loc (.inr x : Key) with | some (.int n) => (Rz.ok n, s) | _ => (Rz.er "", s) : Rz × RS).1 = .ok n := h
      rw [em] at h
      cases h
      exact hm
    | _ => exact okl.elim
  | cell nm a =>
    have h : (match place cs nm (is.headD 0) 0 with | some k => rd ms s k | none => (Rz.er "index", s)).1 = .ok n := h
    cases q : place cs nm (is.headD 0) 0 with
    | none =>
      rw [q] at h
      cases h
    | some k =>
      rw [q] at h
      exact rd_rng O (s' := (rd ms s k).2) (Prod.ext h rfl)
  | _ => exact okl.elim
/-- states that are so -/
abbrev SS (names : List Str) (cs : List Cl) (ms : List Int) : Type := { s : RS // OkS names cs ms s }
def lkS (names : List Str) (cs : List Cl) (ms : List Int) : SS names cs ms → Ex → List Int → Rz × SS names cs ms := fun s e is => ((lkR cs ms s.1 e is).1, ⟨(lkR cs ms s.1 e is).2, (lkR_ok s.2 e is).1⟩)
theorem resE_two {S : Type} {lk : S → Ex → List Int → Rz × S} {s : S} {w : Str} {a b : Ex} {is : List Int} : resE lk s (.two w a b) is = if logic w then (.ok (b1 (!decide (is.getLastD 0 = 0))), s) else match f2 w (is.headD 0) (is.getLastD 0) with
    | some n => (chk n, s)
    | none => (.er "zero", s) := rfl
theorem resE_S {names : List Str} {cs : List Cl} {ms : List Int} (s : SS names cs ms) (e : Ex) (is : List Int) : (resE (lkS names cs ms) s e is).1 = (resE (lkR cs ms) s.1 e is).1 ∧ (resE (lkS names cs ms) s e is).2.1 = (resE (lkR cs ms) s.1 e is).2 := by
  cases e with
  | num n => exact ⟨rfl, rfl⟩
  | var w x => exact ⟨rfl, rfl⟩
  | cell x a => exact ⟨rfl, rfl⟩
  | one w a => exact ⟨rfl, rfl⟩
  | two w a b =>
    rw [resE_two, resE_two]
    by_cases q : logic w
    · rw [if_pos q, if_pos q]
      exact ⟨rfl, rfl⟩
    · rw [if_neg q, if_neg q]
      cases f2 w (is.headD 0) (is.getLastD 0) <;> exact ⟨rfl, rfl⟩
theorem then_S {names : List Str} {cs : List Cl} {ms : List Int} {r : Rz × SS names cs ms} {r2 : Rz × RS} {f : Int → SS names cs ms → Rz × SS names cs ms} {g : Int → RS → Rz × RS} (h1 : r.1 = r2.1) (h2 : r.2.1 = r2.2) (h : ∀ i s, (f i s).1 = (g i s.1).1 ∧ (f i s).2.1 = (g i s.1).2) : (thenE r f).1 = (thenE r2 g).1 ∧ (thenE r f).2.1 = (thenE r2 g).2 := by
  obtain ⟨a, s⟩ := r
  obtain ⟨b, t⟩ := r2
  cases h1
  cases h2
  cases a with
  | ok i => exact h i s
  | er z => exact ⟨rfl, rfl⟩
theorem ev_S {names : List Str} {cs : List Cl} {ms : List Int} : ∀ (e : Ex) (s : SS names cs ms), (ev (lkS names cs ms) s e).1 = (ev (lkR cs ms) s.1 e).1 ∧ (ev (lkS names cs ms) s e).2.1 = (ev (lkR cs ms) s.1 e).2
  | .num n, s => resE_S s (.num n) []
  | .var w x, s => resE_S s (.var w x) []
  | .cell x a, s => then_S (ev_S a s).1 (ev_S a s).2 fun i s => resE_S s (.cell x a) [i]
  | .one w a, s => then_S (ev_S a s).1 (ev_S a s).2 fun i s => resE_S s (.one w a) [i]
  | .two w a b, s => then_S (ev_S a s).1 (ev_S a s).2 fun i s => by
    by_cases q : dec w [i] = true
    · rw [if_pos q, if_pos q]
      exact resE_S s (.two w a b) [i]
    · rw [if_neg q, if_neg q]
      exact then_S (ev_S b s).1 (ev_S b s).2 fun j s => resE_S s (.two w a b) [i, j]
/-- the leaves, read in a run -/
def lookR (p : Pl) (names : List Str) (cs : List Cl) (ms : List Int) (s0 : RS) (H0 : Hp) : Look (SS names cs ms) :=
  ⟨[p.dr], fun s H => (∀ b o, b ≠ p.dr → H0 b = some o → H b = some o) ∧ H p.dr = some (.dK s.1.rds) ∧ s.1.loc = s0.loc ∧ s.1.wrs = s0.wrs ∧ s.1.ltr = s0.ltr, lkS names cs ms, okLR names⟩
theorem tabs_at {T : List NTab} {H H' : Hp} {p : Addr} {kvs : List (Key × V)} (t : TabsN T H) (s : ∀ b o, b ≠ p → H b = some o → H' b = some o) (hp : H p = some (.dK kvs)) : TabsN T H' := fun q hq => by
  obtain ⟨ps, h1, h2, h3⟩ := t q hq
  refine ⟨ps, s _ _ (fun z => ?_) h1, h2, fun pos cv hc => ?_⟩
  · rw [z, hp] at h1
    cases h1
  · obtain ⟨c, e1, e2⟩ := h3 pos cv hc
    refine ⟨c, e1, s _ _ (fun z => ?_) e2⟩
    rw [z, hp] at e2
    cases e2
section
variable {P : Program} {w : World} {K : PySem.W.Frag} {mg : Str → Option Value} {base : Heap} {A : Adr}
theorem ok_Run__value (TB : LamX.TabB base mg A.c_Run__value A.t_Run__value) (T : Txt K mg A) : FnOk P w K mg base (L2N.CX P w) 12 A.a_Run__value A.d_Run__value ["self", "expression"] (spVal K A) := by
  obtain ⟨oc, od, dV, kV, doc, pm0, an, ct, osl, ed, lk⟩ := T.L_Run__value
  rw [ed] at lk ⊢
  refine fn_of lk T.C_Run__value sc_Run__value (fun vs H Q E ⟨_, _, _, _, _, _, _, _, e, _⟩ => by rw [e]; rfl) fun A' outer s0 H vs Q E hr h => ?_
  obtain ⟨p, B, e, v, names, cs, ms, s, rfl, s1, bd, hB, r, ok, okl, hst, R, O, tb, k1, k2⟩ := h
  have hfree : ∀ y ∈ (C8.fnScope sLook).names, y.2 = .free → (defScope s_Run__value).names.lookup y.1 = some .cell ∨ (defScope s_Run__value).names.lookup y.1 = some .free := by decide +kernel
  refine ⟨_, pss_cons (ps_ndefMS (st := sLook) (name := "look") (pos := pLook) (i := 2) (T := TabV A) (nm := nmV) rfl TB rfl (List.mem_singleton.mpr rfl) rfl (fun p hp _ => by rw [List.mem_singleton.mp hp]) hfree rfl rfl rfl sc_Run__value.nd rfl (.inl (by rfl)) (.inl rfl))
    (pss_one (ps_ret (pe_callC (fr := ["self"]) (js := [0]) (E := WE fun c d σ H => E c d H) (fn_ex fun L : Look (SS names cs ms) => ok_value_with L T) cxokN (fun _ => rfl) (fun okX => Caps.made okX hfree (by decide +kernel) rfl) (hr.mono (by decide)) rfl T.g_value_with T.F_value_with.kp T.b_value_with (fun σ => L2N.passAt (L2N.takes_of rfl rfl rfl rfl) σ) (pa_cons (pv 1) (pa_cons (pv 2) pa_nil))))), ?_⟩
  refine ⟨tb, fun f c' H1 eN nn tb1 f0 f1 c1 => ?_⟩
  refine set_sl (σ' := [some (.ref p.self), some v, some (.ref f)]) rfl ?_
  refine ⟨_, rfl, _, rfl, fun zs cz nz => ?_⟩
  obtain ⟨cl, ecl⟩ : ∃ cl, cl = cloFrom (PyProof.Rows.envOfC "Run._value" (defScope s_Run__value) s0.heap.objs.size A.a_Run__value (.ref A.c_Run__value)).cells (C8.fnScope sLook).names [] := ⟨_, rfl⟩
  obtain ⟨qn, eqn⟩ : ∃ qn, qn = (PyProof.Rows.envOfC "Run._value" (defScope s_Run__value) s0.heap.objs.size A.a_Run__value (.ref A.c_Run__value)).qual ++ "look" := ⟨_, rfl⟩
  have f1' : H1 f = some (FnO f (NF.of sLook "look" qn cl c')) := by
    rw [ecl, eqn]
    exact f1
  have c1' : H1 c' = some (LamX.CodeO c' qn) := by
    rw [eqn]
    exact c1
  have cz' : CapZ cl ["self"] [some (.ref p.self)] zs := by
    rw [ecl]
    exact cz
  have sA : Same H1 (addZ zs H1) := fun b o q => addZ_some nz q
  have sB1 : Same B H1 := fun b o q => eN b o (s1 b o q) fun ps z => hB b ps (by rw [q, z])
  have R1 : RunAt K A.a_Run H1 p cs ms s := R.ext eN
  have h1d : addZ zs H1 p.dr = some (.dK s.rds) := sA _ _ R1.rds
  have fdr : f ≠ p.dr := fun z => by
    rw [z, R1.rds] at f1'
    cases f1'
  have zdr : zs.lookup p.dr = none := nz.out R1.rds
  have J0 : ∀ (t : SS names cs ms) (H2 : Hp), (lookR p names cs ms s (addZ zs H1)).J t H2 → HasZ zs H2 ∧ (∀ b o, b ≠ p.dr → H1 b = some o → delZ zs H2 b = some o) ∧ delZ zs H2 p.dr = some (.dK t.1.rds) := fun t H2 j =>
    ⟨fun a o q => j.1 _ _ (fun z => by rw [z, zdr] at q; cases q) (addZ_in q), fun b o n q => by
      rw [delZ_out (nz.out q)]
      exact j.1 _ _ n (sA _ _ q), by
      rw [delZ_out zdr]
      exact j.2.1⟩
  refine ⟨lookR p names cs ms s (addZ zs H1), B, ⟨s, O⟩, e, v, f, clSp f (NF.of sLook "look" qn cl c') ["self"] (spLk K A.a_Run A.a_Fault p names cs ms), rfl, sB1.trans sA, r, ok, okl, hst, ⟨fun b o _ q => q, h1d, rfl, rfl, rfl⟩, clok_of ((nok_look T p names cs ms qn cl c' f).mono (by decide)) cxokN, ?_, fun t H2 j x hx => ?_, fun n s' H2 hev hn j g => ?_, fun rr s' d H2 hev j g d0 d1 => ?_⟩
  · refine ⟨fun t Hx j => ⟨_, j.1 _ _ fdr (sA _ _ f1')⟩, fun t Hx Hy j k => ⟨fun b o n q => ?_, ?_, j.2.2.1, j.2.2.2.1, j.2.2.2.2⟩, fun x hx => ?_, fun x hx => ?_, fun t e is n t' ho hl => lkR_rng t.2 ho (congrArg Prod.fst hl), ?_⟩
    · rw [k b (by rw [q]; simp)]
      exact j.1 b o n q
    · rw [k p.dr (by rw [h1d]; simp)]
      exact j.2.1
    · rw [List.mem_singleton.mp hx, h1d]
      simp
    · rw [List.mem_singleton.mp hx]
      exact bd
    · intro t e' is v' pi Hx Q' E' j okL' ok' r' sBx hp' hin' hl' q1 q2
      obtain ⟨hz, hk, hdr⟩ := J0 t Hx j
      have nself : p.self ≠ p.dr := fun z => by
        have h1 := R1.ob
        rw [z, R1.rds] at h1
        cases h1
      have hkd : ∀ {b : Addr} {o : HO}, H1 b = some o → (∀ kvs, o ≠ .dK kvs) → delZ zs Hx b = some o := fun q nd => hk _ _ (fun z => by
        rw [z, R1.rds] at q
        exact nd _ (Option.some.inj q).symm) q
      have sqL : ∀ {b : Addr} {xs : List V}, SqL K H1 b xs → SqL K (delZ zs Hx) b xs := fun h => by
        rcases h with (h | ⟨o, h⟩) | h
        · exact .inl (.inl (hkd h fun _ z => by cases z))
        · exact .inl (.inr ⟨o, hkd h fun _ z => by cases z⟩)
        · exact .inr h
      have sqT : ∀ {b : Addr} {xs : List V}, SqT K H1 b xs → SqT K (delZ zs Hx) b xs := fun h => by
        rcases h with (h | ⟨o, h⟩) | h
        · exact .inl (.inl (hkd h fun _ z => by cases z))
        · exact .inl (.inr ⟨o, hkd h fun _ z => by cases z⟩)
        · exact .inr h
      have Rx : RunAt K A.a_Run (delZ zs Hx) p cs ms t.1 := by
        obtain ⟨xs, c1, c2⟩ := R1.cel.ex
        refine ⟨hk _ _ nself R1.ob, ⟨xs, sqL c1, paired_mapP c2 fun c v ⟨t, e, q⟩ => ⟨t, e, sqT q⟩⟩, hkd R1.mem fun _ z => (by cases z), ?_, hdr, ?_, ?_, R1.n1, R1.n2, R1.n3⟩
        · rw [j.2.2.1]
          exact hk _ _ R1.n1 R1.loc
        · rw [j.2.2.2.1]
          exact hk _ _ R1.n2 R1.wrs
        · rw [j.2.2.2.2]
          exact hkd R1.ltr fun _ z => by cases z
      have sBx : Same B (delZ zs Hx) := fun b o q => hk _ _ (fun z => by rw [z, bd] at q; cases q) (sB1 _ _ q)
      have hpx : delZ zs Hx pi = some (.lst (is.map V.int)) := delZ_some hz hp' fun o q => by cases q
      refine ⟨zs, [some (.ref p.self)], j.1 _ _ fdr (sA _ _ f1'), j.1 _ _ (fun z => by have h := c1'; rw [show c' = p.dr from z, R1.rds] at h; cases h) (sA _ _ c1'), hz, cz', t.1, B, e', is, v', pi, rfl, rfl, sBx, r', okL', hpx, hl', Rx, t.2, fun n s' H' hr hn hf hd nz' => ?_, fun rr s' d H' hr es g d0 d1 nz' => ?_⟩
      · have e1 : lkS names cs ms t e' is = (.ok n, (lkS names cs ms t e' is).2) := Prod.ext (show (lkR cs ms t.1 e' is).1 = _ from congrArg Prod.fst hr) rfl
        have e2 : (lkS names cs ms t e' is).2.1 = s' := congrArg Prod.snd hr
        obtain ⟨_, l1, l2, l3⟩ := lkR_ok t.2 e' is
        refine q1 n _ (addZ zs H') e1 ⟨fun b o nb q => ?_, ?_, l1.trans j.2.2.1, l2.trans j.2.2.2.1, l3.trans j.2.2.2.2⟩ fun b o q nb => ?_
        · rcases look_cases (zs := zs) b with ⟨u, z⟩ | z
          · rw [addZ_in z] at q ⊢
            exact q
          · rw [addZ_out z] at q ⊢
            rw [hf b nb]
            exact hk b o nb q
        · rw [addZ_out zdr, e2]
          exact hd
        · have nb : b ≠ p.dr := fun z => nb (List.mem_singleton.mpr z)
          rcases look_cases (zs := zs) b with ⟨u, z⟩ | z
          · rw [hz b u z] at q
            rw [addZ_in z]
            exact q
          · rw [addZ_out z, hf b nb, delZ_out z]
            exact q
      · have e1 : lkS names cs ms t e' is = (.er rr, (lkS names cs ms t e' is).2) := Prod.ext (show (lkR cs ms t.1 e' is).1 = _ from congrArg Prod.fst hr) rfl
        have e2 : (lkS names cs ms t e' is).2.1 = t.1 := (congrArg Prod.snd hr).trans es
        obtain ⟨_, l1, l2, l3⟩ := lkR_ok t.2 e' is
        have dz : zs.lookup d = none := nz'.out d1
        refine q2 rr _ d (addZ zs H') e1 ⟨fun b o nb q => ?_, ?_, l1.trans j.2.2.1, l2.trans j.2.2.2.1, l3.trans j.2.2.2.2⟩ (fun b o q nb => ?_) (by rw [delZ_out dz] at d0; exact d0) (addZ_some nz' d1)
        · rcases look_cases (zs := zs) b with ⟨u, z⟩ | z
          · rw [addZ_in z] at q ⊢
            exact q
          · rw [addZ_out z] at q ⊢
            exact g b o (hk b o nb q)
        · rw [addZ_out zdr, e2]
          exact g _ _ hdr
        · rcases look_cases (zs := zs) b with ⟨u, z⟩ | z
          · rw [hz b u z] at q
            rw [addZ_in z]
            exact q
          · rw [addZ_out z]
            exact g b o (by rw [delZ_out z]; exact q)
  · rw [List.mem_singleton.mp hx, j.2.1]
    simp
  · obtain ⟨hz, hk, hdr⟩ := J0 s' H2 j
    obtain ⟨e1, e2⟩ := ev_S e (⟨s, O⟩ : SS names cs ms)
    refine ⟨hz, k1 n s'.1 (delZ zs H2) (Prod.ext (e1.symm.trans (congrArg Prod.fst hev)) (e2.symm.trans (congrArg (fun z => z.2.1) hev))) hn (fun b o nb q nt => hk b o (fun z => nb (by rw [z]; exact List.mem_singleton.mpr rfl)) (eN b o q nt)) hdr (tabs_at tb1 hk R1.rds)⟩
  · obtain ⟨hz, hk, hdr⟩ := J0 s' H2 j
    obtain ⟨e1, e2⟩ := ev_S e (⟨s, O⟩ : SS names cs ms)
    have dz : zs.lookup d = none := HasZ.out HasZ.add d0
    have ddr : d ≠ p.dr := fun z => by
      rw [z, h1d] at d0
      cases d0
    refine ⟨hz, k2 rr s'.1 d (delZ zs H2) (Prod.ext (e1.symm.trans (congrArg Prod.fst hev)) (e2.symm.trans (congrArg (fun z => z.2.1) hev))) (fun b o nb q nt => hk b o (fun z => nb (by rw [z]; exact List.mem_singleton.mpr rfl)) (eN b o q nt)) hdr (tabs_at tb1 hk R1.rds) (nn d (by rw [addZ_out dz] at d0; exact d0)) (by rw [delZ_out dz]; exact d1)⟩
end
end K13

namespace K13
open PySem L2 YF NdefX
/-! ### statements -/
mutual
inductive Sm where
  | set (x : Str) (e : Ex) | put (nm : Str) (i e : Ex) | later (e : Ex) | cond (c : Ex) (a b : Bd) | rep (c : Ex) (b : Bd) | choose (a b : Bd) | word (w : Str)
inductive Bd where
  | nil | cons (s : Sm) (r : Bd)
end
mutual
def Sm.d : Sm → D
  | .set x e => .tup (.cons (.str "set") (.cons (.str x) (.cons e.d .nil)))
  | .put nm i e => .tup (.cons (.str "put") (.cons (.str nm) (.cons i.d (.cons e.d .nil))))
  | .later e => .tup (.cons (.str "later") (.cons e.d .nil))
  | .cond c a b => .tup (.cons (.str "if") (.cons c.d (.cons (.lst a.row) (.cons (.lst b.row) .nil))))
  | .rep c b => .tup (.cons (.str "repeat") (.cons c.d (.cons (.lst b.row) .nil)))
  | .choose a b => .tup (.cons (.str "choose") (.cons (.lst a.row) (.cons (.lst b.row) .nil)))
  | .word w => .tup (.cons (.str w) .nil)
def Bd.row : Bd → D
  | .nil => .nil
  | .cons s r => .cons s.d r.row
end
def keyW : List Str := ["set", "put", "later", "if", "repeat", "choose", "fault"]
mutual
def Sm.ok (names : List Str) : Sm → Prop
  | .set x e => x ∈ names ∧ e.ok ∧ okEx (okLR names) e ∧ stp e ≤ 13
  | .put _ i e => (i.ok ∧ okEx (okLR names) i ∧ stp i ≤ 13) ∧ e.ok ∧ okEx (okLR names) e ∧ stp e ≤ 13
  | .later e => e.ok ∧ okEx (okLR names) e ∧ stp e ≤ 13
  | .cond c a b => (c.ok ∧ okEx (okLR names) c ∧ stp c ≤ 13) ∧ a.ok names ∧ b.ok names
  | .rep c b => (c.ok ∧ okEx (okLR names) c ∧ stp c ≤ 13) ∧ b.ok names
  | .choose a b => a.ok names ∧ b.ok names
  | .word w => w ∈ (["retry", "undo"] : List Str)
def Bd.ok (names : List Str) : Bd → Prop
  | .nil => True
  | .cons s r => s.ok names ∧ r.ok names
end
mutual
def Sm.dp : Sm → Nat
  | .cond _ a b => max a.dp b.dp + 1
  | .rep _ b => b.dp + 1
  | .choose a b => max a.dp b.dp + 1
  | _ => 0
def Bd.dp : Bd → Nat
  | .nil => 0
  | .cons s r => max s.dp r.dp
end
def Bd.len : Bd → Nat
  | .nil => 0
  | .cons _ r => r.len + 1
/-- how a body ends: its kind, or a fault -/
inductive Re where
  | k (w : Str) | f (r : Str) | x
def valE (r : Rz × RS) (g : Int → RS → Re × RS) : Re × RS := match r with
  | (.ok n, s) => g n s
  | (.er z, s) => (.f z, s)
def andB (r : Re × RS) (g : RS → Re × RS) : Re × RS := match r with
  | (.k w, s) => if w = "done" then g s else (.k w, s)
  | (.f z, s) => (.f z, s)
  | (.x, s) => (.x, s)
def loopB : Nat → (RS → Re × RS) → RS → Re × RS
  | 0, _, s => (.k "done", s)
  | n + 1, g, s => andB (g s) (loopB n g)
mutual
def exS (cs : List Cl) (ms : List Int) : Sm → RS → Re × RS
  | .set x e => fun s => valE (ev (lkR cs ms) s e) fun n s => (.k "done", { s with loc := putK s.loc (.inr x : Key) (.int n) })
  | .put nm i e => fun s => valE (ev (lkR cs ms) s i) fun j s => valE (ev (lkR cs ms) s e) fun n s => match place cs nm j 0 with
    | some k => (.k "done", { s with wrs := putK s.wrs (.inl k : Key) (.int n) })
    | none => (.f "index", s)
  | .later e => fun s => valE (ev (lkR cs ms) s e) fun n s => if s.ltr.length < 100000 then (.k "done", { s with ltr := s.ltr ++ [n] }) else (.x, s)
  | .cond c a b => fun s => valE (ev (lkR cs ms) s c) fun n s => if n ≠ 0 then exB cs ms a s else exB cs ms b s
  | .rep c b => fun s => valE (ev (lkR cs ms) s c) fun n s => if n < 0 ∨ 20 < n then (.f "count", s) else loopB n.toNat (exB cs ms b) s
  | .choose a b => fun s => match exB cs ms a s with
    | (.k w, s1) => if w = "retry" then exB cs ms b { s with rds := s1.rds } else (.k w, s1)
    | (.f z, s1) => (.f z, s1)
    | (.x, s1) => (.x, s1)
  | .word w => fun s => (.k w, s)
def exB (cs : List Cl) (ms : List Int) : Bd → RS → Re × RS
  | .nil => fun s => (.k "done", s)
  | .cons a r => fun s => andB (exS cs ms a s) (exB cs ms r)
end
/-! ### a run in its heap -/
def own (p : Pl) : List Addr := [p.self, p.dl, p.dr, p.dw, p.ll]
structure RunH (K : PySem.W.Frag) (A : Adr) (H B : Hp) (p : Pl) (names : List Str) (cs : List Cl) (ms : List Int) (s : RS) : Prop where
  at_ : RunAt K A.a_Run H p cs ms s
  sb : Same B H
  off : ∀ b ∈ own p, B b = none
  nt : ∀ b ps, B b ≠ some (.tbl ps)
  cel : CellsIn K B p.pc cs
  mem : B p.pm = some (.lst (ms.map V.int))
  ok : OkS names cs ms s
  tab : TabsN (TabV A) H
/-- not known: nothing stands there but perhaps a table -/
def NK (H : Hp) (x : Addr) : Prop := ∀ o, H x = some o → ∃ ps, o = .tbl ps
theorem NK.of {H : Hp} {x : Addr} (h : H x = none) : NK H x := fun o e => by
  rw [h] at e
  cases e
/-- the places behind a step: as before, or new -/
structure Nx (H : Hp) (p q : Pl) : Prop where
  self : q.self = p.self
  dx : q.dx = p.dx
  pc : q.pc = p.pc
  pm : q.pm = p.pm
  dr : q.dr = p.dr
  dl : q.dl = p.dl ∨ NK H q.dl
  dw : q.dw = p.dw ∨ NK H q.dw
  ll : q.ll = p.ll ∨ NK H q.ll
theorem Nx.refl {H : Hp} {p : Pl} : Nx H p p := ⟨rfl, rfl, rfl, rfl, rfl, .inl rfl, .inl rfl, .inl rfl⟩
theorem Nx.own {H : Hp} {p q : Pl} (n : Nx H p q) {b : Addr} (h : b ∈ own q) : b ∈ own p ∨ NK H b := by
  simp only [K13.own, List.mem_cons, List.not_mem_nil, or_false] at h ⊢
  rcases h with rfl | rfl | rfl | rfl | rfl
  · exact .inl (.inl n.self)
  · rcases n.dl with e | e
    · exact .inl (.inr (.inl e))
    · exact .inr e
  · exact .inl (.inr (.inr (.inl n.dr)))
  · rcases n.dw with e | e
    · exact .inl (.inr (.inr (.inr (.inl e))))
    · exact .inr e
  · rcases n.ll with e | e
    · exact .inl (.inr (.inr (.inr (.inr e))))
    · exact .inr e
/-- nothing but tables is gone -/
def Alive (H H' : Hp) : Prop := ∀ x o, H x = some o → (∀ ps, o ≠ .tbl ps) → ∃ o', H' x = some o' ∧ ∀ ps, o' ≠ .tbl ps
theorem Alive.trans {H H1 H2 : Hp} (a : Alive H H1) (b : Alive H1 H2) : Alive H H2 := fun x o e n => by
  obtain ⟨o1, e1, n1⟩ := a x o e n
  exact b x o1 e1 n1
theorem NK.back {H H1 : Hp} {x : Addr} (a : Alive H H1) (h : NK H1 x) : NK H x := fun o e => by
  by_cases q : ∃ ps, o = .tbl ps
  · exact q
  · obtain ⟨o1, e1, n1⟩ := a x o e fun ps z => q ⟨ps, z⟩
    obtain ⟨ps, z⟩ := h o1 e1
    exact absurd z (n1 ps)
theorem Kp.trans {H H1 H2 : Hp} {p q : Pl} (a : Kp (K13.own p) H H1) (b : Kp (K13.own q) H1 H2) (n : Nx H p q) : Kp (K13.own p) H H2 := fun x o hx e nt => by
  refine b x o (fun m => ?_) (a x o hx e nt) nt
  rcases n.own m with h | h
  · exact hx h
  · obtain ⟨ps, z⟩ := h o e
    exact nt ps z
theorem Nx.trans {H H1 : Hp} {p q r : Pl} (a : Nx H p q) (b : Nx H1 q r) (k : Alive H H1) : Nx H p r := by
  refine ⟨b.self.trans a.self, b.dx.trans a.dx, b.pc.trans a.pc, b.pm.trans a.pm, b.dr.trans a.dr, ?_, ?_, ?_⟩
  · rcases b.dl with e | e
    · rw [e]
      exact a.dl
    · exact .inr (e.back k)
  · rcases b.dw with e | e
    · rw [e]
      exact a.dw
    · exact .inr (e.back k)
  · rcases b.ll with e | e
    · rw [e]
      exact a.ll
    · exact .inr (e.back k)
/-- what a step promises -/
structure Stp (K : PySem.W.Frag) (A : Adr) (H B : Hp) (p : Pl) (names : List Str) (cs : List Cl) (ms : List Int) (s' : RS) (H' : Hp) (q : Pl) : Prop where
  run : RunH K A H' B q names cs ms s'
  nx : Nx H p q
  kp : Kp (own p) H H'
  al : Alive H H'
def spList (K : PySem.W.Frag) (A : Adr) (n : Nat) : Sp := fun vs H Q E => ∃ (p : Pl) (B : Hp) (b : Bd) (v : V) (names : List Str) (cs : List Cl) (ms : List Int) (s : RS), vs = [.ref p.self, v] ∧ RunH K A H B p names cs ms s ∧ Rp K B (.lst b.row) [v] ∧ b.ok names ∧ b.dp < n ∧ (exB cs ms b s).1 ≠ .x ∧
  (∀ w s' H' q, exB cs ms b s = (.k w, s') → Stp K A H B p names cs ms s' H' q → Q (.str w) H') ∧
  (∀ r s' d H' q, exB cs ms b s = (.f r, s') → Stp K A H B p names cs ms s' H' q → NK H d → H' d = some (.xd (errF r)) → E (.ref A.a_Fault) (some d) H')
def spStm (K : PySem.W.Frag) (A : Adr) (P : Sm → Prop) (res : Str → V) : Sp := fun vs H Q E => ∃ (p : Pl) (B : Hp) (b : Sm) (v : V) (names : List Str) (cs : List Cl) (ms : List Int) (s : RS), vs = [.ref p.self, v] ∧ RunH K A H B p names cs ms s ∧ Rp K B b.d [v] ∧ b.ok names ∧ P b ∧ (exS cs ms b s).1 ≠ .x ∧
  (∀ w s' H' q, exS cs ms b s = (.k w, s') → Stp K A H B p names cs ms s' H' q → Q (res w) H') ∧
  (∀ r s' d H' q, exS cs ms b s = (.f r, s') → Stp K A H B p names cs ms s' H' q → NK H d → H' d = some (.xd (errF r)) → E (.ref A.a_Fault) (some d) H')
theorem Stp.refl {K : PySem.W.Frag} {A : Adr} {H B : Hp} {p : Pl} {names : List Str} {cs : List Cl} {ms : List Int} {s : RS} (R : RunH K A H B p names cs ms s) : Stp K A H B p names cs ms s H p := ⟨R, .refl, fun _ _ _ e _ => e, fun x o e n => ⟨o, e, n⟩⟩
theorem Stp.trans {K : PySem.W.Frag} {A : Adr} {H H1 H2 B : Hp} {p q r : Pl} {names : List Str} {cs : List Cl} {ms : List Int} {s1 s2 : RS} (a : Stp K A H B p names cs ms s1 H1 q) (b : Stp K A H1 B q names cs ms s2 H2 r) : Stp K A H B p names cs ms s2 H2 r :=
  ⟨b.run, a.nx.trans b.nx a.al, a.kp.trans b.kp a.nx, a.al.trans b.al⟩
/-! ### an expression in a run -/
theorem ev_keep {names : List Str} {cs : List Cl} {ms : List Int} : ∀ (e : Ex) {s : RS}, OkS names cs ms s → OkS names cs ms (ev (lkR cs ms) s e).2 ∧ (ev (lkR cs ms) s e).2.loc = s.loc ∧ (ev (lkR cs ms) s e).2.wrs = s.wrs ∧ (ev (lkR cs ms) s e).2.ltr = s.ltr := by
  have G : ∀ {s : RS} {e : Ex} {is : List Int}, OkS names cs ms s → OkS names cs ms (resE (lkR cs ms) s e is).2 ∧ (resE (lkR cs ms) s e is).2.loc = s.loc ∧ (resE (lkR cs ms) s e is).2.wrs = s.wrs ∧ (resE (lkR cs ms) s e is).2.ltr = s.ltr := by
    intro s e is O
    cases e with
    | num n => exact ⟨O, rfl, rfl, rfl⟩
    | var w x => exact lkR_ok O (.var w x) is
    | cell x a => exact lkR_ok O (.cell x a) is
    | one w a => exact ⟨O, rfl, rfl, rfl⟩
    | two w a b =>
      have e1 : (resE (lkR cs ms) s (.two w a b) is).2 = s := by
        rw [resE_two]
        by_cases q : logic w
        · rw [if_pos q]
        · rw [if_neg q]
          cases f2 w (is.headD 0) (is.getLastD 0) <;> rfl
      rw [e1]
      exact ⟨O, rfl, rfl, rfl⟩
  have Th : ∀ {r : Rz × RS} {s : RS} {f : Int → RS → Rz × RS}, (OkS names cs ms r.2 ∧ r.2.loc = s.loc ∧ r.2.wrs = s.wrs ∧ r.2.ltr = s.ltr) → (∀ i s1, OkS names cs ms s1 → OkS names cs ms (f i s1).2 ∧ (f i s1).2.loc = s1.loc ∧ (f i s1).2.wrs = s1.wrs ∧ (f i s1).2.ltr = s1.ltr) →
      OkS names cs ms (thenE r f).2 ∧ (thenE r f).2.loc = s.loc ∧ (thenE r f).2.wrs = s.wrs ∧ (thenE r f).2.ltr = s.ltr := by
    intro r s f h k
    obtain ⟨a, t⟩ := r
    cases a with
    | ok i =>
      obtain ⟨h1, h2, h3, h4⟩ := h
      obtain ⟨k1, k2, k3, k4⟩ := k i t h1
      exact ⟨k1, k2.trans h2, k3.trans h3, k4.trans h4⟩
    | er z => exact h
  intro e
  induction e with
  | num n => exact fun O => G O
  | var w x => exact fun O => G O
  | cell x a ih => exact fun O => Th (ih O) fun i s1 O1 => G O1
  | one w a ih => exact fun O => Th (ih O) fun i s1 O1 => G O1
  | two w a b iha ihb =>
    refine fun O => Th (iha O) fun i s1 O1 => ?_
    by_cases q : dec w [i] = true
    · rw [if_pos q]
      exact G O1
    · rw [if_neg q]
      exact Th (ihb O1) fun j s2 O2 => G O2
theorem RunH.next {K : PySem.W.Frag} {A : Adr} {H H' B : Hp} {p : Pl} {names : List Str} {cs : List Cl} {ms : List Int} {s s' : RS} (R : RunH K A H B p names cs ms s) (kp : Kp [p.dr] H H') (hr : H' p.dr = some (.dK s'.rds)) (tb : TabsN (TabV A) H') (O : OkS names cs ms s') (l1 : s'.loc = s.loc) (l2 : s'.wrs = s.wrs) (l3 : s'.ltr = s.ltr) : Stp K A H B p names cs ms s' H' p := by
  have kd : ∀ {b : Addr} {o : HO}, b ≠ p.dr → H b = some o → (∀ ps, o ≠ .tbl ps) → H' b = some o := fun n e t => kp _ _ (fun z => n (List.mem_singleton.mp z)) e t
  have sb : Same B H' := fun b o e => kd (fun z => by rw [z, R.off p.dr (by simp [own])] at e; cases e) (R.sb _ _ e) fun ps z => R.nt b ps (by rw [e, z])
  have ndk : ∀ {b : Addr} {o : HO}, H b = some o → (∀ kvs, o ≠ .dK kvs) → b ≠ p.dr := fun e n z => by
    rw [z, R.at_.rds] at e
    exact n _ (Option.some.inj e).symm
  refine ⟨⟨⟨?_, R.cel.mono sb, sb _ _ R.mem, ?_, hr, ?_, ?_, R.at_.n1, R.at_.n2, R.at_.n3⟩, sb, R.off, R.nt, R.cel, R.mem, O, tb⟩, .refl, fun x o hx e nt => kd (fun z => hx (by rw [z]; simp [own])) e nt, fun x o e nt => ?_⟩
  · exact kd (ndk R.at_.ob fun _ z => by cases z) R.at_.ob fun _ z => by cases z
  · rw [l1]
    exact kd R.at_.n1 R.at_.loc fun _ z => by cases z
  · rw [l2]
    exact kd R.at_.n2 R.at_.wrs fun _ z => by cases z
  · rw [l3]
    exact kd (ndk R.at_.ltr fun _ z => by cases z) R.at_.ltr fun _ z => by cases z
  · by_cases q : x = p.dr
    · rw [q]
      exact ⟨_, hr, fun _ z => by cases z⟩
    · exact ⟨o, kd q e nt, nt⟩
theorem go_value {K : PySem.W.Frag} {A : Adr} {σ : L2.St} {H B : Hp} {te : TE} {E : L2.St → XK} {Q : VK} {p : Pl} {names : List Str} {cs : List Cl} {ms : List Int} {s : RS} {e : Ex} {v : V} (hs : σ[0]? = some (some (.ref p.self))) (hu : Te te σ H v) (R : RunH K A H B p names cs ms s) (r : Rp K B e.d [v]) (ok : e.ok ∧ okEx (okLR names) e ∧ stp e ≤ 13)
    (k1 : ∀ n s' H', ev (lkR cs ms) s e = (.ok n, s') → InR n → Stp K A H B p names cs ms s' H' p → Q (.int n) H')
    (k2 : ∀ r s' d H', ev (lkR cs ms) s e = (.er r, s') → Stp K A H B p names cs ms s' H' p → NK H d → H' d = some (.xd (errF r)) → E σ (.ref A.a_Fault) (some d) H') : tMethC A.a_Run "_value" (spVal K A) E (tVar 0) (tCons te tNil) σ H Q := by
  refine ⟨_, hs, p.self, p.dx, fldR p, rfl, R.at_.ob, rfl, hu _ ?_⟩
  have K0 : ∀ {x : Rz} {s' : RS}, ev (lkR cs ms) s e = (x, s') → OkS names cs ms s' ∧ s'.loc = s.loc ∧ s'.wrs = s.wrs ∧ s'.ltr = s.ltr := fun h => by
    have := ev_keep e R.ok
    rw [h] at this
    exact this
  refine ⟨p, B, e, v, names, cs, ms, s, rfl, R.sb, R.off _ (by simp [own]), R.nt, r, ok.1, ok.2.1, Nat.le_trans ok.2.2 (by decide), R.at_, R.ok, R.tab, fun n s' H' h hn kp hr tb => ?_, fun rr s' d H' h kp hr tb d0 d1 => ?_⟩
  · obtain ⟨O, l1, l2, l3⟩ := K0 h
    exact k1 n s' H' h hn (R.next kp hr tb O l1 l2 l3)
  · obtain ⟨O, l1, l2, l3⟩ := K0 h
    exact k2 rr s' d H' h (R.next kp hr tb O l1 l2 l3) (.of d0) d1
end K13

namespace K13
open PySem L2 YF NdefX
/-! ### what a run writes -/
theorem tabs_no {T : List NTab} {H : Hp} {p : Addr} {o o' : HO} (t : TabsN T H) (hp : H p = some o) (n1 : ∀ ps, o ≠ .tbl ps) (n2 : ∀ c q, o ≠ LamX.CodeO c q) : TabsN T (upd H p o') := fun q hq => by
  obtain ⟨ps, h1, h2, h3⟩ := t q hq
  refine ⟨ps, ?_, h2, fun pos cv hc => ?_⟩
  · rw [upd_ne fun z => by rw [z, hp] at h1; exact n1 _ (Option.some.inj h1)]
    exact h1
  · obtain ⟨c, e1, e2⟩ := h3 pos cv hc
    refine ⟨c, e1, ?_⟩
    rw [upd_ne fun z => by rw [z, hp] at e2; exact n2 _ _ (Option.some.inj e2)]
    exact e2
section
variable {K : PySem.W.Frag} {A : Adr} {H B : Hp} {p : Pl} {names : List Str} {cs : List Cl} {ms : List Int} {s : RS}
theorem RunH.one (R : RunH K A H B p names cs ms s) {x : Addr} {o o' : HO} (hx : x ∈ own p) (e : H x = some o) (t1 : ∀ ps, o ≠ .tbl ps) (t2 : ∀ c q, o ≠ LamX.CodeO c q) (t3 : ∀ ps, o' ≠ .tbl ps) {s' : RS} (O : OkS names cs ms s')
    (h1 : (upd H x o') p.self = some (.ins A.a_Run p.dx (fldR p))) (h2 : (upd H x o') p.dl = some (.dK s'.loc)) (h3 : (upd H x o') p.dr = some (.dK s'.rds)) (h4 : (upd H x o') p.dw = some (.dK s'.wrs)) (h5 : (upd H x o') p.ll = some (.lst (s'.ltr.map V.int))) : Stp K A H B p names cs ms s' (upd H x o') p := by
  have sb : Same B (upd H x o') := fun b u q => by
    rw [upd_ne fun z => by rw [z, R.off x hx] at q; cases q]
    exact R.sb _ _ q
  exact ⟨⟨⟨h1, R.cel.mono sb, sb _ _ R.mem, h2, h3, h4, h5, R.at_.n1, R.at_.n2, R.at_.n3⟩, sb, R.off, R.nt, R.cel, R.mem, O, tabs_no R.tab e t1 t2⟩, .refl, fun y u hy q _ => by
    rw [upd_ne fun z => hy (by rw [z]; exact hx)]
    exact q, fun y u q nt => by
    by_cases z : y = x
    · exact ⟨o', by rw [z]; exact upd_same, t3⟩
    · exact ⟨u, by rw [upd_ne z]; exact q, nt⟩⟩
theorem RunH.kinds (R : RunH K A H B p names cs ms s) : p.self ≠ p.dl ∧ p.self ≠ p.dw ∧ p.self ≠ p.dr ∧ p.self ≠ p.ll ∧ p.ll ≠ p.dl ∧ p.ll ≠ p.dw ∧ p.ll ≠ p.dr := by
  refine ⟨fun z => ?_, fun z => ?_, fun z => ?_, fun z => ?_, fun z => ?_, fun z => ?_, fun z => ?_⟩
  · have h := R.at_.ob
    rw [z, R.at_.loc] at h
    cases h
  · have h := R.at_.ob
    rw [z, R.at_.wrs] at h
    cases h
  · have h := R.at_.ob
    rw [z, R.at_.rds] at h
    cases h
  · have h := R.at_.ob
    rw [z, R.at_.ltr] at h
    cases h
  · have h := R.at_.ltr
    rw [z, R.at_.loc] at h
    cases h
  · have h := R.at_.ltr
    rw [z, R.at_.wrs] at h
    cases h
  · have h := R.at_.ltr
    rw [z, R.at_.rds] at h
    cases h
/-- self.writes[k] = n -/
theorem RunH.putW (R : RunH K A H B p names cs ms s) {k : Nat} {n : Int} (hk : k < ms.length) (hn : InR n) : Stp K A H B p names cs ms { s with wrs := putK s.wrs (.inl (k : Int) : Key) (.int n) } (upd H p.dw (.dK (putK s.wrs (.inl (k : Int) : Key) (.int n)))) p := by
  obtain ⟨a1, a2, a3, a4, a5, a6, a7⟩ := R.kinds
  have O := R.ok
  exact R.one (by simp [own]) R.at_.wrs (fun _ z => by cases z) (fun _ _ z => by cases z) (fun _ z => by cases z) ⟨O.loc, O.rds, O.wrs.put hk hn, O.ltr, O.pos, O.len, O.big, O.mem, O.lc⟩ (by rw [upd_ne a2]; exact R.at_.ob) (by rw [upd_ne R.at_.n3]; exact R.at_.loc) (by rw [upd_ne R.at_.n2.symm]; exact R.at_.rds) upd_same (by rw [upd_ne a6]; exact R.at_.ltr)
/-- self.locals_now[x] = n -/
theorem RunH.putL (R : RunH K A H B p names cs ms s) {x : Str} {n : Int} (hx : x ∈ names) (hn : InR n) : Stp K A H B p names cs ms { s with loc := putK s.loc (.inr x : Key) (.int n) } (upd H p.dl (.dK (putK s.loc (.inr x : Key) (.int n)))) p := by
  obtain ⟨a1, a2, a3, a4, a5, a6, a7⟩ := R.kinds
  have O := R.ok
  refine R.one (by simp [own]) R.at_.loc (fun _ z => by cases z) (fun _ _ z => by cases z) (fun _ z => by cases z) ⟨fun y hy => ?_, O.rds, O.wrs, O.ltr, O.pos, O.len, O.big, O.mem, ?_⟩ (by rw [upd_ne a1]; exact R.at_.ob) upd_same (by rw [upd_ne R.at_.n1.symm]; exact R.at_.rds) (by rw [upd_ne R.at_.n3.symm]; exact R.at_.wrs) (by rw [upd_ne a5]; exact R.at_.ltr)
  · show ∃ m, valV (putK s.loc (.inr x : Key) (.int n)) (.inr y : Key) = some (.int m) ∧ InR m
    rw [valV_put]
    by_cases z : (.inr y : Key) = .inr x
    · rw [if_pos z]
      exact ⟨n, rfl, hn⟩
    · rw [if_neg z]
      exact O.loc y hy
  · show (putK s.loc (.inr x : Key) (.int n)).length ≤ 1000
    obtain ⟨m, em, _⟩ := O.loc x hx
    unfold putK
    rw [if_pos (List.any_eq_true.mpr ⟨_, valV_mem em, decide_eq_true rfl⟩), List.length_map]
    exact O.lc
/-- self.later.append(n) -/
theorem RunH.putT (R : RunH K A H B p names cs ms s) {n : Int} (hn : InR n) : Stp K A H B p names cs ms { s with ltr := s.ltr ++ [n] } (upd H p.ll (.lst (s.ltr.map V.int ++ [.int n]))) p := by
  obtain ⟨a1, a2, a3, a4, a5, a6, a7⟩ := R.kinds
  have O := R.ok
  refine R.one (by simp [own]) R.at_.ltr (fun _ z => by cases z) (fun _ _ z => by cases z) (fun _ z => by cases z) ⟨O.loc, O.rds, O.wrs, fun m hm => ?_, O.pos, O.len, O.big, O.mem, O.lc⟩ (by rw [upd_ne a4]; exact R.at_.ob) (by rw [upd_ne a5.symm]; exact R.at_.loc) (by rw [upd_ne a7.symm]; exact R.at_.rds) (by rw [upd_ne a6.symm]; exact R.at_.wrs) (by rw [upd_same, List.map_append]; rfl)
  rcases List.mem_append.mp hm with h | h
  · exact O.ltr m h
  · rw [List.mem_singleton.mp h]
    exact hn
end
section
variable {P : Program} {w : World} {K : PySem.W.Frag} {mg : Str → Option Value} {base : Heap} {A : Adr}
theorem go_dputC {σ : L2.St} {H : Hp} {te to : TE} {ta : TA} {D : Ends} {C pc p : Addr} {nm : Str} {i : Int} {E : L2.St → XK} {v : V} {kvs : List (Key × V)} {cs : List Cl} (h : Te te σ H v) (hp : Te to σ H (.ref p)) (ha : Ta ta σ H [.ref pc, .str nm, .int i]) (hc : CellsIn K H pc cs) (e : H p = some (.dK kvs)) (l : kvs.length < sizeLine)
    (k1 : ∀ k, place cs nm i 0 = some k → D.nx σ (upd H p (.dK (putK kvs (.inl k : Key) v)))) (k2 : place cs nm i 0 = none → ∀ d H', Same H H' → H d = none → H' d = some (.xd (errF "index")) → E σ (.ref C) (some d) H') : sDPut to (tCallS (spCellNo K C) E ta) te D σ H :=
  h _ (hp _ (ha _ ⟨pc, cs, nm, i, rfl, hc, fun k hk => ⟨p, _, rfl, DPut.k (k := (.inl k : Key)) e l, k1 k hk⟩, k2⟩))
theorem RunH.more {H H' B : Hp} {p : Pl} {names : List Str} {cs : List Cl} {ms : List Int} {s : RS} (R : RunH K A H B p names cs ms s) (g : Same H H') : Stp K A H B p names cs ms s H' p :=
  ⟨⟨⟨g _ _ R.at_.ob, R.at_.cel.mono g, g _ _ R.at_.mem, g _ _ R.at_.loc, g _ _ R.at_.rds, g _ _ R.at_.wrs, g _ _ R.at_.ltr, R.at_.n1, R.at_.n2, R.at_.n3⟩, R.sb.trans g, R.off, R.nt, R.cel, R.mem, R.ok, R.tab.ext g⟩, .refl, fun x o _ e _ => g _ _ e, fun x o e n => ⟨o, g _ _ e, n⟩⟩
theorem Stp.dead {H H1 B : Hp} {p q : Pl} {names : List Str} {cs : List Cl} {ms : List Int} {s1 : RS} {d : Addr} (a : Stp K A H B p names cs ms s1 H1 q) (h : H1 d = none) : NK H d := NK.back a.al (NK.of h)
def isPut : Sm → Prop := fun b => ∃ nm i e, b = .put nm i e
theorem ok_Run__put (TB : LamX.TabB base mg A.c_Run__value A.t_Run__value) (T : Txt K mg A) : FnOk P w K mg base (L2N.CX P w) 13 A.a_Run__put A.d_Run__put ["self", "statement"] (spStm K A isPut fun _ => .non) := by
  refine okN T.F_Run__put sc_Run__put (fun vs H Q E ⟨_, _, _, _, _, _, _, _, e, _⟩ => by rw [e]; rfl) (fun cdv A' outer s0 H vs Q E hr h => ?_)
  obtain ⟨p, B, b, v, names, cs, ms, s, rfl, R, r, ok, ⟨nm, i, e, rfl⟩, nx, k1, k2⟩ := h
  refine ⟨_, pss_cons (ps_set (i := 2) sc_Run__put.nd rfl (Or.inl rfl) (pe_methE (pv 0) T.cl_Run T.m_Run__value (ok_Run__value TB T) (hr.mono (by decide)) T.b_Run__value (fun σ => L2N.passAt (L2N.takes_of rfl rfl rfl rfl) σ) (pa_cons (pe_ix ix_tup (pv 1) (pe_int) (fun _ _ => rfl)) pa_nil)))
  (pss_cons (ps_set (i := 3) sc_Run__put.nd rfl (Or.inl rfl) (pe_methE (pv 0) T.cl_Run T.m_Run__value (ok_Run__value TB T) (hr.mono (by decide)) T.b_Run__value (fun σ => L2N.passAt (L2N.takes_of rfl rfl rfl rfl) σ) (pa_cons (pe_ix ix_tup (pv 1) (pe_int) (fun _ _ => rfl)) pa_nil)))
  (pss_one (ps_dput (hu_of hr) (pe_fld (pv 0) rfl) (pe_callS (ok_cell_number T) (hr.mono (by decide)) rfl T.g_cell_number T.F_cell_number.kp T.b_cell_number (fun σ => L2N.passAt (L2N.takes_of rfl rfl rfl rfl) σ) (pa_cons (pe_fld (pv 0) rfl) (pa_cons (pe_ix ix_tup (pv 1) (pe_int) (fun _ _ => rfl)) (pa_cons (pv 2) pa_nil)))) (pv 3) rfl))), ?_⟩
  obtain ⟨t, xs, rfl, h1, h2, h3⟩ := rp_tup r
  obtain ⟨x1, r1, rfl, q1, q2⟩ := rp_cons h3
  obtain ⟨x2, r2, rfl, q3, q4⟩ := rp_cons q2
  obtain ⟨x3, r3, rfl, q5, q6⟩ := rp_cons q4
  obtain ⟨x4, r4, rfl, q7, q8⟩ := rp_cons q6
  cases q1
  cases q3
  cases q8
  have lc : (fldR p).lookup ("_cells" : Str) = some (.ref p.pc) := rfl
  have lw : (fldR p).lookup ("writes" : Str) = some (.ref p.dw) := rfl
  refine go_value (p := p) (e := i) (v := x3) rfl (te_ixT (te_var rfl) te_c (Same.sqT R.sb h1) (atI_nat (j := 2) rfl)) R q5 ok.1 (fun j sj H1 ej hj S1 => ?_) fun rr sj d H1 ej S1 d0 d1 => ?_
  · dsimp only [gName]
    refine set_sl (σ' := [some (.ref p.self), some (.ref t), some (.int j), none]) rfl ?_
    refine go_value (p := p) (e := e) (v := x4) rfl (te_ixT (te_var rfl) te_c (Same.sqT S1.run.sb h1) (atI_nat (j := 3) rfl)) S1.run q7 ok.2 (fun n sn H2 en hn S2 => ?_) fun rr sn d H2 en S2 d0 d1 => ?_
    · dsimp only [gName]
      refine set_sl (σ' := [some (.ref p.self), some (.ref t), some (.int j), some (.int n)]) rfl ?_
      have S3 := S1.trans S2
      have ex : exS cs ms (.put nm i e) s = (match place cs nm j 0 with | some k => (.k "done", { sn with wrs := putK sn.wrs (.inl k : Key) (.int n) }) | none => (.f "index", sn)) := by
        show valE (ev (lkR cs ms) s i) _ = _
        rw [ej]
        show valE (ev (lkR cs ms) sj e) _ = _
        rw [en]
        rfl
      refine go_dputC (cs := cs) (te_var rfl) (te_fld (te_var rfl) S3.run.at_.ob T.cl_Run T.no_Run_writes lw) (ta_cons (te_fld (te_var rfl) S3.run.at_.ob T.cl_Run T.no_Run__cells lc) (ta_cons (te_ixT (te_var rfl) te_c (Same.sqT S3.run.sb h1) (atI_nat (j := 1) rfl)) (ta_cons (te_var rfl) ta_nil))) S3.run.at_.cel S3.run.at_.wrs (by have := S3.run.ok.wrs.len; have := S3.run.ok.big; rw [sizeLine_eq]; omega) (fun k hk => ?_) fun hk d H3 g d0 d1 => ?_
      · have hl := place_lt S3.run.ok.pos hk
        have hm := S3.run.ok.len
        obtain ⟨kn, rfl⟩ : ∃ kn : Nat, k = kn := ⟨k.toNat, by omega⟩
        exact k1 "done" _ _ p (by rw [ex, hk]) (S3.trans (S3.run.putW (show kn < ms.length by omega) hn))
      · exact k2 "index" _ d H3 p (by rw [ex, hk]) (S3.trans (S3.run.more g)) (S3.dead d0) d1
    · exact k2 rr sn d H2 p (by show valE (ev (lkR cs ms) s i) _ = _; rw [ej]; show valE (ev (lkR cs ms) sj e) _ = _; rw [en]; rfl) (S1.trans S2) (NK.back S1.al d0) d1
  · exact k2 rr sj d H1 p (by show valE (ev (lkR cs ms) s i) _ = _; rw [ej]; rfl) S1 d0 d1
end
end K13

namespace K13
open PySem L2 YF NdefX
section
variable {P : Program} {w : World} {K : PySem.W.Frag} {mg : Str → Option Value} {base : Heap} {A : Adr}
theorem go_list {σ : L2.St} {H B : Hp} {te : TE} {E : L2.St → XK} {Q : VK} {n : Nat} {p : Pl} {names : List Str} {cs : List Cl} {ms : List Int} {s : RS} {b : Bd} {v : V} (hs : σ[0]? = some (some (.ref p.self))) (hu : Te te σ H v) (R : RunH K A H B p names cs ms s) (r : Rp K B (.lst b.row) [v]) (ok : b.ok names) (hd : b.dp < n) (nx : (exB cs ms b s).1 ≠ .x)
    (k1 : ∀ w s' H' q, exB cs ms b s = (.k w, s') → Stp K A H B p names cs ms s' H' q → Q (.str w) H')
    (k2 : ∀ r s' d H' q, exB cs ms b s = (.f r, s') → Stp K A H B p names cs ms s' H' q → NK H d → H' d = some (.xd (errF r)) → E σ (.ref A.a_Fault) (some d) H') : tMethC A.a_Run "do_list" (spList K A n) E (tVar 0) (tCons te tNil) σ H Q :=
  ⟨_, hs, p.self, p.dx, fldR p, rfl, R.at_.ob, rfl, hu _ ⟨p, B, b, v, names, cs, ms, s, rfl, R, r, ok, hd, nx, k1, k2⟩⟩
theorem andB_x {r : Re × RS} {g : RS → Re × RS} (h : r.1 = .x) : (andB r g).1 = .x := by
  obtain ⟨a, b⟩ := r
  have h : a = .x := h
  subst h
  rfl
def isRep (n : Nat) : Sm → Prop := fun b => (∃ c a, b = .rep c a) ∧ b.dp < n + 1
theorem ok_Run__repeat {n : Nat} (TB : LamX.TabB base mg A.c_Run__value A.t_Run__value) (T : Txt K mg A) (ihl : FnOk P w K mg base (L2N.CX P w) (3 * n + 14) A.a_Run_do_list A.d_Run_do_list ["self", "statements"] (spList K A n)) : FnOk P w K mg base (L2N.CX P w) (3 * n + 15) A.a_Run__repeat A.d_Run__repeat ["self", "statement"] (spStm K A (isRep n) fun w => .str w) := by
  refine okN (k := 3 * n + 14) T.F_Run__repeat sc_Run__repeat (fun vs H Q E ⟨_, _, _, _, _, _, _, _, e, _⟩ => by rw [e]; rfl) (fun cdv A' outer s0 H vs Q E hr h => ?_)
  obtain ⟨p, B, b, v, names, cs, ms, s, rfl, R, r, ok, ⟨⟨c, bd, rfl⟩, hdp⟩, nx, k1, k2⟩ := h
  refine ⟨_, pss_cons (ps_set (i := 2) sc_Run__repeat.nd rfl (Or.inl rfl) (pe_methE (pv 0) T.cl_Run T.m_Run__value (ok_Run__value TB T) (hr.mono (by omega)) T.b_Run__value (fun σ => L2N.passAt (L2N.takes_of rfl rfl rfl rfl) σ) (pa_cons (pe_ix ix_tup (pv 1) (pe_int) (fun _ _ => rfl)) pa_nil)))
  (pss_cons (ps_if (PW.pt (pw_or (pt_cmpR op_lt (pv 2) (pe_int) (nomark _)) (pw_or1 (pt_cmpR op_gt (pv 2) (pe_glob (v := .int 20) rfl T.g_MOST_TIMES ⟨_, rfl⟩) (nomark _)))))
  (pss_one (L2N.ps_raise rfl (L2N.takes_of rfl rfl rfl rfl) (pmkN_oex T.Fault_o T.Fault_i T.Fault_t (ok_Fault___init__ T) (hr.mono (by omega)) T.b_Fault___init__ pass0 (by exact rfl) T.g_Fault (pa_cons (pe_str) pa_nil))))
  (pss_nil))
  (pss_cons (ps_for PassesOwn.leaving rfl (pi_range1 (by rfl) T.n_range (pa_cons (pv 2) pa_nil)) (pg_name (i := 3) sc_Run__repeat.nd rfl (Or.inl rfl))
  (pss_cons (ps_set (i := 4) sc_Run__repeat.nd rfl (Or.inl rfl) (pe_methE (pv 0) T.cl_Run T.m_Run_do_list ihl (hr.mono (by omega)) T.b_Run_do_list (fun σ => L2N.passAt (L2N.takes_of rfl rfl rfl rfl) σ) (pa_cons (pe_ix ix_tup (pv 1) (pe_int) (fun _ _ => rfl)) pa_nil)))
  (pss_one (ps_if (pt_cmpR op_ne (pv 4) (pe_str) (nomark _))
  (pss_one (ps_ret (pv 4)))
  (pss_nil)))))
  (pss_one (ps_ret (pe_str))))), ?_⟩
  obtain ⟨t, xs, rfl, h1, h2, h3⟩ := rp_tup r
  obtain ⟨x1, r1, rfl, q1, q2⟩ := rp_cons h3
  obtain ⟨x2, r2, rfl, q3, q4⟩ := rp_cons q2
  obtain ⟨x3, r3, rfl, q5, q6⟩ := rp_cons q4
  cases q1
  cases q6
  have hdp : bd.dp + 1 < n + 1 := hdp
  have ex0 : exS cs ms (.rep c bd) s = valE (ev (lkR cs ms) s c) fun n s => if n < 0 ∨ 20 < n then (.f "count", s) else loopB n.toNat (exB cs ms bd) s := rfl
  refine go_value (p := p) (e := c) (v := x2) rfl (te_ixT (te_var rfl) te_c (Same.sqT R.sb h1) (atI_nat (j := 1) rfl)) R q3 ok.1 (fun m sm H1 em hm S1 => ?_) fun rr sj d H1 ej S1 d0 d1 => ?_
  · dsimp only [gName]
    refine set_sl (σ' := [some (.ref p.self), some (.ref t), some (.int m), none, none]) rfl ?_
    have ex1 : exS cs ms (.rep c bd) s = if m < 0 ∨ 20 < m then (.f "count", sm) else loopB m.toNat (exB cs ms bd) sm := by
      rw [ex0, em]
      rfl
    refine if_seq (tt_or (tt_test (te_i0 (te_var rfl) te_c)) fun _ => tt_test (te_i0 (te_var rfl) te_c)) (fun h => ?_) fun h => ?_
    · have h : m < 0 ∨ 20 < m := by simpa using h
      rw [if_pos h] at ex1
      exact raise_go (fun R q => q) fun d H2 g d0 d1 => k2 "count" _ d H2 p ex1 (S1.trans (S1.run.more g)) (S1.dead d0) d1
    · have h : ¬ (m < 0 ∨ 20 < m) := by simpa using h
      rw [if_neg h] at ex1
      refine ⟨_, rfl, m, rfl, by omega, by omega, for_range (lo := 0) (n := m.toNat) (fun i σ H' => ∃ (v3 v4 : Option V) (s' : RS) (q : Pl), σ = [some (.ref q.self), some (.ref t), some (.int m), v3, v4] ∧ Stp K A H B p names cs ms s' H' q ∧ exS cs ms (.rep c bd) s = loopB (m.toNat - i) (exB cs ms bd) s') ⟨_, _, sm, p, rfl, S1, ex1⟩ ?_ ?_⟩
      · rintro i σ H2 hi ⟨v3, v4, s', q, rfl, S2, e2⟩
        dsimp only [gName]
        refine set_sl (σ' := [some (.ref q.self), some (.ref t), some (.int m), some (.int (0 + (i : Int))), v4]) rfl ?_
        have ei : m.toNat - i = (m.toNat - (i + 1)) + 1 := by omega
        rw [ei] at e2
        have e2 : exS cs ms (.rep c bd) s = andB (exB cs ms bd s') (loopB (m.toNat - (i + 1)) (exB cs ms bd)) := e2
        refine go_list (p := q) (b := bd) (v := x3) rfl (te_ixT (te_var rfl) te_c (Same.sqT S2.run.sb h1) (atI_nat (j := 2) rfl)) S2.run q5 ok.2 (by omega) (fun z => nx (by rw [e2]; exact andB_x z)) (fun wd s3 H3 q3 e3 S3 => ?_) fun rr s3 d H3 q3 e3 S3 d0 d1 => ?_
        · have S4 := S2.trans S3
          rw [e3] at e2
          dsimp only [gName]
          refine set_sl (σ' := [some (.ref q.self), some (.ref t), some (.int m), some (.int (0 + (i : Int))), some (.str wd)]) rfl ?_
          refine if_go (tt_test (te_ne (te_var rfl) te_c rfl)) (fun h => ?_) fun h => ?_
          · have h : wd ≠ "done" := by
              rw [deq_str] at h
              simpa using h
            exact ret_te (te_var rfl) (k1 wd s3 H3 q3 (by rw [e2]; show (if wd = "done" then _ else _) = _; rw [if_neg h]) S4)
          · have h : wd = "done" := by
              rw [deq_str] at h
              simpa using h
            refine ⟨_, _, s3, q3, by rw [S3.nx.self], S4, ?_⟩
            rw [e2]
            show (if wd = "done" then _ else _) = _
            rw [if_pos h]
        · exact k2 rr s3 d H3 q3 (by rw [e2, e3]; rfl) (S2.trans S3) (NK.back S2.al d0) d1
      · rintro σ H2 ⟨v3, v4, s', q, rfl, S2, e2⟩
        dsimp only
        exact ret_te te_c (k1 "done" s' H2 q (by rw [e2, Nat.sub_self]; rfl) S2)
  · exact k2 rr sj d H1 p (by rw [ex0, ej]; rfl) S1 d0 d1
end
end K13

namespace K13
open PySem L2 YF NdefX
section
variable {P : Program} {w : World} {K : PySem.W.Frag} {mg : Str → Option Value} {base : Heap} {A : Adr}
/-- self.locals_now, self.writes, self.later = copies made before -/
theorem swapR {H H1 H2 B : Hp} {p q : Pl} {names : List Str} {cs : List Cl} {ms : List Int} {s s2 : RS} {l1 w1 t1 : Addr} (R : RunH K A H B p names cs ms s) (S : Stp K A H B p names cs ms s2 H2 q) (hl : H l1 = none) (hw : H w1 = none) (ht : H t1 = none) (nlw : l1 ≠ w1) (el : H2 l1 = some (.dK s.loc)) (ew : H2 w1 = some (.dK s.wrs)) (et : H2 t1 = some (.lst (s.ltr.map V.int))) {fs1 fs2 : List (Str × V)} :
    Stp K A H B p names cs ms { s with rds := s2.rds } (upd (upd (upd H2 q.self (.ins A.a_Run q.dx fs1)) q.self (.ins A.a_Run q.dx fs2)) q.self (.ins A.a_Run q.dx (fldR { q with dl := l1, dw := w1, ll := t1 }))) { q with dl := l1, dw := w1, ll := t1 } := by
  have o1 := S.run.at_.ob
  have ns : ∀ {x : Addr} {o : HO}, H2 x = some o → (∀ C d f, o ≠ .ins C d f) → x ≠ q.self := fun e n z => by
    rw [z, o1] at e
    exact n _ _ _ (Option.some.inj e).symm
  have back : ∀ {x : Addr}, x ≠ q.self → (upd (upd (upd H2 q.self (.ins A.a_Run q.dx fs1)) q.self (.ins A.a_Run q.dx fs2)) q.self (.ins A.a_Run q.dx (fldR { q with dl := l1, dw := w1, ll := t1 }))) x = H2 x := fun n => by rw [upd_ne n, upd_ne n, upd_ne n]
  have noB : ∀ {x : Addr}, H x = none → B x = none := fun {x} h => by
    cases e : B x with
    | none => rfl
    | some o =>
      have := R.sb _ _ e
      rw [h] at this
      cases this
  have dr : q.dr = p.dr := S.nx.dr
  have ndr : ∀ {x : Addr}, H x = none → x ≠ q.dr := fun h z => by
    rw [dr] at z
    rw [z, R.at_.rds] at h
    cases h
  have sb : Same B (upd (upd (upd H2 q.self (.ins A.a_Run q.dx fs1)) q.self (.ins A.a_Run q.dx fs2)) q.self (.ins A.a_Run q.dx (fldR { q with dl := l1, dw := w1, ll := t1 }))) := fun b o e => by
    rw [back fun z => by rw [z, S.run.off q.self (by simp [own])] at e; cases e]
    exact S.run.sb _ _ e
  have tb : TabsN (TabV A) (upd (upd (upd H2 q.self (.ins A.a_Run q.dx fs1)) q.self (.ins A.a_Run q.dx fs2)) q.self (.ins A.a_Run q.dx (fldR { q with dl := l1, dw := w1, ll := t1 }))) :=
    tabs_no (tabs_no (tabs_no S.run.tab o1 (fun _ z => by cases z) (fun _ _ z => by cases z)) upd_same (fun _ z => by cases z) (fun _ _ z => by cases z)) upd_same (fun _ z => by cases z) (fun _ _ z => by cases z)
  have O := R.ok
  refine ⟨⟨⟨upd_same, S.run.cel.mono sb, sb _ _ S.run.mem, ?_, ?_, ?_, ?_, ndr hl, ndr hw, nlw⟩, sb, fun b hb => ?_, S.run.nt, S.run.cel, S.run.mem, ⟨O.loc, S.run.ok.rds, O.wrs, O.ltr, O.pos, O.len, O.big, O.mem, O.lc⟩, tb⟩, ⟨S.nx.self, S.nx.dx, S.nx.pc, S.nx.pm, S.nx.dr, .inr (.of hl), .inr (.of hw), .inr (.of ht)⟩, fun x o hx e nt => ?_, fun x o e nt => ?_⟩
  · show (upd _ _ _) l1 = _
    rw [back (ns el fun _ _ _ z => by cases z)]
    exact el
  · show (upd _ _ _) q.dr = _
    rw [back (ns S.run.at_.rds fun _ _ _ z => by cases z)]
    exact S.run.at_.rds
  · show (upd _ _ _) w1 = _
    rw [back (ns ew fun _ _ _ z => by cases z)]
    exact ew
  · show (upd _ _ _) t1 = _
    rw [back (ns et fun _ _ _ z => by cases z)]
    exact et
  · simp only [own, List.mem_cons, List.not_mem_nil, or_false] at hb
    rcases hb with rfl | rfl | rfl | rfl | rfl
    · exact S.run.off _ (by simp [own])
    · exact noB hl
    · exact S.run.off _ (by simp [own])
    · exact noB hw
    · exact noB ht
  · rw [back fun z => hx (by rw [z, S.nx.self]; simp [own])]
    exact S.kp x o hx e nt
  · by_cases z : x = q.self
    · exact ⟨_, by rw [z]; exact upd_same, fun _ y => by cases y⟩
    · rw [back z]
      exact S.al x o e nt
def isCh (n : Nat) : Sm → Prop := fun b => (∃ x y, b = .choose x y) ∧ b.dp < n + 1
theorem ok_Run__choose {n : Nat} (T : Txt K mg A) (ihl : FnOk P w K mg base (L2N.CX P w) (3 * n + 14) A.a_Run_do_list A.d_Run_do_list ["self", "statements"] (spList K A n)) : FnOk P w K mg base (L2N.CX P w) (3 * n + 15) A.a_Run__choose A.d_Run__choose ["self", "statement"] (spStm K A (isCh n) fun w => .str w) := by
  refine okN (k := 3 * n + 14) T.F_Run__choose sc_Run__choose (fun vs H Q E ⟨_, _, _, _, _, _, _, _, e, _⟩ => by rw [e]; rfl) (fun cdv A' outer s0 H vs Q E hr h => ?_)
  obtain ⟨p, B, b, v, names, cs, ms, s, rfl, R, r, ok, ⟨⟨x, y, rfl⟩, hdp⟩, nx, k1, k2⟩ := h
  refine ⟨_, pss_cons (ps_set (i := 2) sc_Run__choose.nd rfl (Or.inl rfl) (pe_callTy call_dictD (by rfl) T.n_dict (by decide +kernel) (pa_cons (pe_fld (pv 0) rfl) pa_nil)))
  (pss_cons (ps_set (i := 3) sc_Run__choose.nd rfl (Or.inl rfl) (pe_callTy call_dictD (by rfl) T.n_dict (by decide +kernel) (pa_cons (pe_fld (pv 0) rfl) pa_nil)))
  (pss_cons (ps_set (i := 4) sc_Run__choose.nd rfl (Or.inl rfl) (pe_callTy call_list_of (by rfl) T.n_list (by decide +kernel) (pa_cons (pe_fld (pv 0) rfl) pa_nil)))
  (pss_cons (ps_set (i := 5) sc_Run__choose.nd rfl (Or.inl rfl) (pe_methE (pv 0) T.cl_Run T.m_Run_do_list ihl (hr.mono (by omega)) T.b_Run_do_list (fun σ => L2N.passAt (L2N.takes_of rfl rfl rfl rfl) σ) (pa_cons (pe_ix ix_tup (pv 1) (pe_int) (fun _ _ => rfl)) pa_nil)))
  (pss_cons (ps_if (pt_cmpR op_ne (pv 5) (pe_str) (nomark _))
  (pss_one (ps_ret (pv 5)))
  (pss_nil))
  (pss_cons (ps_fld (pv 0) (pv 2) rfl)
  (pss_cons (ps_fld (pv 0) (pv 3) rfl)
  (pss_cons (ps_fld (pv 0) (pv 4) rfl)
  (pss_one (ps_ret (pe_methE (pv 0) T.cl_Run T.m_Run_do_list ihl (hr.mono (by omega)) T.b_Run_do_list (fun σ => L2N.passAt (L2N.takes_of rfl rfl rfl rfl) σ) (pa_cons (pe_ix ix_tup (pv 1) (pe_int) (fun _ _ => rfl)) pa_nil))))))))))), ?_⟩
  obtain ⟨t, xs, rfl, h1, h2, h3⟩ := rp_tup r
  obtain ⟨x1, r1, rfl, q1, q2⟩ := rp_cons h3
  obtain ⟨x2, r2, rfl, q3, q4⟩ := rp_cons q2
  obtain ⟨x3, r3, rfl, q5, q6⟩ := rp_cons q4
  cases q1
  cases q6
  have hdp : max x.dp y.dp + 1 < n + 1 := hdp
  have ex0 : exS cs ms (.choose x y) s = (match exB cs ms x s with | (.k w, s1) => if w = "retry" then exB cs ms y { s with rds := s1.rds } else (.k w, s1) | (.f z, s1) => (.f z, s1) | (.x, s1) => (.x, s1)) := rfl
  have ll : (fldR p).lookup ("locals_now" : Str) = some (.ref p.dl) := rfl
  have lw : (fldR p).lookup ("writes" : Str) = some (.ref p.dw) := rfl
  have lt : (fldR p).lookup ("later" : Str) = some (.ref p.ll) := rfl
  refine (te_fld (te_var rfl) R.at_.ob T.cl_Run T.no_Run_locals_now ll : Te _ _ _ (.ref p.dl)) _ ⟨p.dl, s.loc, rfl, .inl R.at_.loc, fun l1 hl1 => ?_⟩
  dsimp only [gName]
  refine set_sl (σ' := [some (.ref p.self), some (.ref t), some (.ref l1), none, none, none]) rfl ?_
  have g1 : Same H (upd H l1 (.dK s.loc)) := Same.upd hl1
  have e1 : (upd H l1 (.dK s.loc)) l1 = some (.dK s.loc) := upd_same
  generalize upd H l1 (HO.dK s.loc) = H1 at g1 e1 ⊢
  have R1 := R.more g1
  refine (te_fld (te_var rfl) R1.run.at_.ob T.cl_Run T.no_Run_writes lw : Te _ _ _ (.ref p.dw)) _ ⟨p.dw, s.wrs, rfl, .inl R1.run.at_.wrs, fun w1 hw1 => ?_⟩
  dsimp only [gName]
  refine set_sl (σ' := [some (.ref p.self), some (.ref t), some (.ref l1), some (.ref w1), none, none]) rfl ?_
  have nlw : l1 ≠ w1 := ne_of_none e1 hw1
  have g2 : Same H1 (upd H1 w1 (.dK s.wrs)) := Same.upd hw1
  have e2 : (upd H1 w1 (.dK s.wrs)) w1 = some (.dK s.wrs) := upd_same
  have e1b := g2 _ _ e1
  generalize upd H1 w1 (HO.dK s.wrs) = H2 at g2 e2 e1b ⊢
  have R2 := R1.run.more g2
  refine (te_fld (te_var rfl) R2.run.at_.ob T.cl_Run T.no_Run_later lt : Te _ _ _ (.ref p.ll)) _ ⟨p.ll, _, rfl, .inl (SqL.of R2.run.at_.ltr), fun t1 ht1 => ?_⟩
  dsimp only [gName]
  refine set_sl (σ' := [some (.ref p.self), some (.ref t), some (.ref l1), some (.ref w1), some (.ref t1), none]) rfl ?_
  have g3 : Same H2 (upd H2 t1 (.lst (s.ltr.map V.int))) := Same.upd ht1
  have e3 : (upd H2 t1 (.lst (s.ltr.map V.int))) t1 = some (.lst (s.ltr.map V.int)) := upd_same
  have e1c := g3 _ _ e1b
  have e2c := g3 _ _ e2
  generalize upd H2 t1 (HO.lst (s.ltr.map V.int)) = H3 at g3 e3 e1c e2c ⊢
  have up : ∀ {a : Addr} {G : Hp}, Same H G → G a = none → H a = none := fun {a G} g h => by
    cases e : H a with
    | none => rfl
    | some o =>
      have := g _ _ e
      rw [h] at this
      cases this
  have hw0 : H w1 = none := up g1 hw1
  have ht0 : H t1 = none := up (g1.trans g2) ht1
  have S3 := R.more ((g1.trans g2).trans g3)
  have notown : ∀ {a : Addr}, H a = none → a ∉ own p := fun {a} h m => by
    simp only [own, List.mem_cons, List.not_mem_nil, or_false] at m
    rcases m with rfl | rfl | rfl | rfl | rfl
    · rw [R.at_.ob] at h; cases h
    · rw [R.at_.loc] at h; cases h
    · rw [R.at_.rds] at h; cases h
    · rw [R.at_.wrs] at h; cases h
    · rw [R.at_.ltr] at h; cases h
  refine go_list (p := p) (b := x) (v := x2) rfl (te_ixT (te_var rfl) te_c (Same.sqT S3.run.sb h1) (atI_nat (j := 1) rfl)) S3.run q3 ok.1 (by omega) (fun z => nx (by
      rw [ex0]
      cases e9 : exB cs ms x s with
      | mk ra rb =>
        rw [e9] at z
        have z : ra = .x := z
        subst z
        rfl)) (fun wd s4 H4 q ex S4 => ?_) fun rr s4 d H4 q ex S4 d0 d1 => ?_
  · dsimp only [gName]
    refine set_sl (σ' := [some (.ref p.self), some (.ref t), some (.ref l1), some (.ref w1), some (.ref t1), some (.str wd)]) rfl ?_
    have f1 := S4.kp _ _ (notown hl1) e1c fun _ z => by cases z
    have f2 := S4.kp _ _ (notown hw0) e2c fun _ z => by cases z
    have f3 := S4.kp _ _ (notown ht0) e3 fun _ z => by cases z
    have S5 := S3.trans S4
    rw [ex] at ex0
    refine if_seq (tt_test (te_ne (te_var rfl) te_c rfl)) (fun h => ?_) fun h => ?_
    · have h : wd ≠ "retry" := by
        rw [deq_str] at h
        simpa using h
      exact ret_te (te_var rfl) (k1 wd s4 H4 q (by rw [ex0]; show (if wd = "retry" then _ else _) = _; rw [if_neg h]) S5)
    · have h : wd = "retry" := by
        rw [deq_str] at h
        simpa using h
      have ex1 : exS cs ms (.choose x y) s = exB cs ms y { s with rds := s4.rds } := by
        rw [ex0]
        show (if wd = "retry" then _ else _) = _
        rw [if_pos h]
      rw [← S5.nx.self]
      have lf : (fldR q).length < 1000 := by show 6 < 1000; decide
      refine st_fld (te_var rfl) (te_var rfl) S5.run.at_.ob T.cl_Run T.no_Run_locals_now lf ?_
      refine st_fld (te_var rfl) (te_var rfl) upd_same T.cl_Run T.no_Run_writes (by show 6 < 1000; decide) ?_
      refine st_fld (te_var rfl) (te_var rfl) upd_same T.cl_Run T.no_Run_later (by show 6 < 1000; decide) ?_
      have S6 := swapR (H1 := H) R S5 hl1 hw0 ht0 nlw f1 f2 f3 (fs1 := putF "locals_now" (.ref l1) (fldR q)) (fs2 := putF "writes" (.ref w1) (putF "locals_now" (.ref l1) (fldR q)))
      have ef : putF "later" (.ref t1) (putF "writes" (.ref w1) (putF "locals_now" (.ref l1) (fldR q))) = fldR { q with dl := l1, dw := w1, ll := t1 } := rfl
      rw [ef]
      refine go_list (p := { q with dl := l1, dw := w1, ll := t1 }) (b := y) (v := x3) rfl (te_ixT (te_var rfl) te_c (Same.sqT S6.run.sb h1) (atI_nat (j := 2) rfl)) S6.run q5 ok.2 (by omega) (fun z => nx (by rw [ex1]; exact z)) (fun w7 s7 H7 q7 e7 S7 => ?_) fun rr s7 d H7 q7 e7 S7 d0 d1 => ?_
      · exact k1 w7 s7 H7 q7 (by rw [ex1]; exact e7) (S6.trans S7)
      · exact k2 rr s7 d H7 q7 (by rw [ex1]; exact e7) (S6.trans S7) (NK.back S6.al d0) d1
  · exact k2 rr s4 d H4 q (by rw [ex0, ex]) (S3.trans S4) (NK.back S3.al d0) d1
end
end K13

namespace K13
open PySem L2 YF NdefX
section
variable {P : Program} {w : World} {K : PySem.W.Frag} {mg : Str → Option Value} {base : Heap} {A : Adr}
theorem go_app {σ : L2.St} {H : Hp} {to : TE} {ta : TA} {D : Ends} {p : Addr} {xs : List V} (hp : Te to σ H (.ref p)) (e : H p = some (.lst xs)) (k : ta σ H fun vs H2 => rAppend (.ref p) vs H2 fun _ H3 => D.nx σ H3) : tDrop (tBM K "list" rAppend to ta) D σ H := hp _ ⟨.inl ⟨rfl, _, SqL.of e⟩, k⟩
theorem go_meth {σ : L2.St} {H : Hp} {C : Addr} {m : Str} {sp : Sp} {E : L2.St → XK} {Q : VK} {a dx : Addr} {fs : List (Str × V)} {i : Nat} {ta : TA} {vs : List V} (hs : σ[i]? = some (some (.ref a))) (e : H a = some (.ins C dx fs)) (l : fs.lookup m = none) (ha : Ta ta σ H vs) (h : sp (.ref a :: vs) H Q (E σ)) : tMethC C m sp E (tVar i) ta σ H Q :=
  ⟨_, hs, a, dx, fs, rfl, e, l, ha _ h⟩
theorem if_str {σ : L2.St} {H : Hp} {te : TE} {x y : Str} {D : Ends} {tu tw : TS} (ha : Te te σ H (.str x)) (h1 : x = y → tu D σ H) (h2 : x ≠ y → tw D σ H) : tIfS (tTest (tOp rEq te (tC (.str y)))) tu tw D σ H :=
  if_go (tt_test (te_eq ha te_c rfl)) (fun h => h1 (by rw [deq_str] at h; exact of_decide_eq_true h)) fun h => h2 (by rw [deq_str] at h; exact of_decide_eq_false h)
theorem put_done {cs : List Cl} {ms : List Int} {nm : Str} {i e : Ex} {s s' : RS} {w : Str} (h : exS cs ms (.put nm i e) s = (.k w, s')) : w = "done" := by
  have h : valE (ev (lkR cs ms) s i) (fun j s => valE (ev (lkR cs ms) s e) fun n s => match place cs nm j 0 with
    | some k => (.k "done", { s with wrs := putK s.wrs (.inl k : Key) (.int n) })
    | none => (.f "index", s)) = (.k w, s') := h
  cases e1 : ev (lkR cs ms) s i with
  | mk a t =>
  rw [e1] at h
  cases a with
  | er z => cases h
  | ok j =>
    have h : valE (ev (lkR cs ms) t e) (fun n s => match place cs nm j 0 with
      | some k => (.k "done", { s with wrs := putK s.wrs (.inl k : Key) (.int n) })
      | none => (.f "index", s)) = (.k w, s') := h
    cases e2 : ev (lkR cs ms) t e with
    | mk b u =>
    rw [e2] at h
    cases b with
    | er z => cases h
    | ok m =>
      have h : (match place cs nm j 0 with
        | some k => (.k "done", { u with wrs := putK u.wrs (.inl k : Key) (.int m) })
        | none => (.f "index", u) : Re × RS) = (.k w, s') := h
      cases q : place cs nm j 0 with
      | none =>
        rw [q] at h
        cases h
      | some k =>
        rw [q] at h
        cases h
        rfl
def wordS : Sm → Str
  | .set _ _ => "set" | .put _ _ _ => "put" | .later _ => "later" | .cond _ _ _ => "if" | .rep _ _ => "repeat" | .choose _ _ => "choose" | .word w => w
theorem sm_at {B : Hp} {b : Sm} {v : V} (h : Rp K B b.d [v]) : ∃ t r, v = .ref t ∧ SqT K B t (.str (wordS b) :: r) := by
  cases b <;> (
    obtain ⟨t, xs, rfl, h1, h2, h3⟩ := rp_tup h
    obtain ⟨x1, r1, rfl, q1, q2⟩ := rp_cons h3
    cases q1
    exact ⟨t, r1, rfl, h1⟩)
theorem ok_Run__do {n : Nat} (TB : LamX.TabB base mg A.c_Run__value A.t_Run__value) (T : Txt K mg A) (ihl : FnOk P w K mg base (L2N.CX P w) (3 * n + 14) A.a_Run_do_list A.d_Run_do_list ["self", "statements"] (spList K A n)) : FnOk P w K mg base (L2N.CX P w) (3 * n + 16) A.a_Run__do A.d_Run__do ["self", "statement"] (spStm K A (fun b => b.dp < n + 1) fun w => .str w) := by
  refine okN (k := 3 * n + 15) T.F_Run__do sc_Run__do (fun vs H Q E ⟨_, _, _, _, _, _, _, _, e, _⟩ => by rw [e]; rfl) (fun cdv A' outer s0 H vs Q E hr h => ?_)
  obtain ⟨p, B, b, v, names, cs, ms, s, rfl, R, r, ok, hdp, nx, k1, k2⟩ := h
  refine ⟨_, pss_cons (ps_set (i := 2) sc_Run__do.nd rfl (Or.inl rfl) (pe_ix ix_tup (pv 1) (pe_int) (fun _ _ => rfl)))
  (C8.pss_cut (ps_if (pt_cmpR op_eq (pv 2) (pe_str) (nomark _))
  (pss_one (ps_dput (hu_of hr) (pe_fld (pv 0) rfl) (pe_ix ix_tup (pv 1) (pe_int) (fun _ _ => rfl)) (pe_methE (pv 0) T.cl_Run T.m_Run__value (ok_Run__value TB T) (hr.mono (by omega)) T.b_Run__value (fun σ => L2N.passAt (L2N.takes_of rfl rfl rfl rfl) σ) (pa_cons (pe_ix ix_tup (pv 1) (pe_int) (fun _ _ => rfl)) pa_nil)) rfl))
  (pss_one (ps_if (pt_cmpR op_eq (pv 2) (pe_str) (nomark _))
  (pss_one (ps_expr (pe_methE (pv 0) T.cl_Run T.m_Run__put (ok_Run__put TB T) (hr.mono (by omega)) T.b_Run__put (fun σ => L2N.passAt (L2N.takes_of rfl rfl rfl rfl) σ) (pa_cons (pv 1) pa_nil))))
  (pss_one (ps_if (pt_cmpR op_eq (pv 2) (pe_str) (nomark _))
  (pss_one (ps_expr (pe_bm PySem.F.plainAttrs_list PySem.F.slot_list_append PySem.F.type_list_append mt_append (pe_fld (pv 0) rfl) (pa_cons (pe_methE (pv 0) T.cl_Run T.m_Run__value (ok_Run__value TB T) (hr.mono (by omega)) T.b_Run__value (fun σ => L2N.passAt (L2N.takes_of rfl rfl rfl rfl) σ) (pa_cons (pe_ix ix_tup (pv 1) (pe_int) (fun _ _ => rfl)) pa_nil)) pa_nil))))
  (pss_one (ps_if (pt_cmpR op_eq (pv 2) (pe_str) (nomark _))
  (pss_one (ps_ret (pe_methE (pv 0) T.cl_Run T.m_Run_do_list ihl (hr.mono (by omega)) T.b_Run_do_list (fun σ => L2N.passAt (L2N.takes_of rfl rfl rfl rfl) σ) (pa_cons (pe_ifExp (pt_cmpR op_ne (pe_methE (pv 0) T.cl_Run T.m_Run__value (ok_Run__value TB T) (hr.mono (by omega)) T.b_Run__value (fun σ => L2N.passAt (L2N.takes_of rfl rfl rfl rfl) σ) (pa_cons (pe_ix ix_tup (pv 1) (pe_int) (fun _ _ => rfl)) pa_nil)) (pe_int) (nomark _)) (pe_ix ix_tup (pv 1) (pe_int) (fun _ _ => rfl)) (pe_ix ix_tup (pv 1) (pe_int) (fun _ _ => rfl))) pa_nil))))
  (pss_one (ps_if (pt_cmpR op_eq (pv 2) (pe_str) (nomark _))
  (pss_one (ps_ret (pe_methE (pv 0) T.cl_Run T.m_Run__repeat (ok_Run__repeat TB T ihl) (hr.mono (by omega)) T.b_Run__repeat (fun σ => L2N.passAt (L2N.takes_of rfl rfl rfl rfl) σ) (pa_cons (pv 1) pa_nil))))
  (pss_one (ps_if (pt_cmpR op_eq (pv 2) (pe_str) (nomark _))
  (pss_one (ps_ret (pe_methE (pv 0) T.cl_Run T.m_Run__choose (ok_Run__choose T ihl) (hr.mono (by omega)) T.b_Run__choose (fun σ => L2N.passAt (L2N.takes_of rfl rfl rfl rfl) σ) (pa_cons (pv 1) pa_nil))))
  (pss_one (ps_ret (pv 2))))))))))))))
  (pss_one (ps_ret (pe_str)))), ?_⟩
  obtain ⟨t, rr, rfl, h1⟩ := sm_at r
  have ht := Same.sqT R.sb h1
  refine asg_te (te_ixT (te_var rfl) te_c ht (atI_nat (j := 0) rfl)) ?_
  refine set_sl (σ' := [some (.ref p.self), some (.ref t), some (.str (wordS b))]) rfl ?_
  refine ⟨fun σ H' => ∃ s' q, exS cs ms b s = (.k "done", s') ∧ Stp K A H B p names cs ms s' H' q, ?_, ?_⟩
  · cases b with
    | set x e =>
      obtain ⟨t', xs, e0, g1, g2, g3⟩ := rp_tup r
      obtain ⟨x1, r1, rfl, q1, q2⟩ := rp_cons g3
      obtain ⟨x2, r2, rfl, q3, q4⟩ := rp_cons q2
      obtain ⟨x3, r3, rfl, q5, q6⟩ := rp_cons q4
      cases e0
      cases q1
      cases q3
      cases q6
      have ex0 : exS cs ms (.set x e) s = valE (ev (lkR cs ms) s e) fun n s => (.k "done", { s with loc := putK s.loc (.inr x : Key) (.int n) }) := rfl
      have ll : (fldR p).lookup ("locals_now" : Str) = some (.ref p.dl) := rfl
      refine if_str (te_var rfl) (fun _ => ?_) fun z => absurd rfl z
      refine go_value (p := p) (e := e) (v := x3) rfl (te_ixT (te_var rfl) te_c (Same.sqT R.sb g1) (atI_nat (j := 2) rfl)) R q5 ok.2 (fun n s' H1 ev1 hn S1 => ?_) fun rr s' d H1 ev1 S1 d0 d1 => ?_
      · refine (te_fld (te_var rfl) S1.run.at_.ob T.cl_Run T.no_Run_locals_now ll : Te _ _ _ (.ref p.dl)) _ ?_
        refine (te_ixT (te_var rfl) te_c (Same.sqT S1.run.sb g1) (atI_nat (j := 1) rfl) : Te _ _ _ (.str x)) _ ?_
        refine ⟨p.dl, _, rfl, DPut.k (k := (.inr x : Key)) S1.run.at_.loc (by have := S1.run.ok.lc; rw [sizeLine_eq]; omega), ?_⟩
        exact ⟨_, p, by rw [ex0, ev1]; rfl, S1.trans (S1.run.putL ok.1 hn)⟩
      · exact k2 rr s' d H1 p (by rw [ex0, ev1]; rfl) S1 d0 d1
    | put nm i e =>
      refine if_str (te_var rfl) (fun z => absurd z (show ¬ (("put" : Str) = "set") by decide +kernel)) fun _ => ?_
      refine if_str (te_var rfl) (fun _ => ?_) fun z => absurd rfl z
      refine go_meth (vs := [.ref t]) rfl R.at_.ob rfl (ta_cons (te_var rfl) ta_nil) ⟨p, B, _, _, names, cs, ms, s, rfl, R, r, ok, ⟨nm, i, e, rfl⟩, nx, fun w s' H' q ex S => ⟨s', q, by
        have : w = "done" := put_done ex
        rw [← this]
        exact ex, S⟩, k2⟩
    | later e =>
      obtain ⟨t', xs, e0, g1, g2, g3⟩ := rp_tup r
      obtain ⟨x1, r1, rfl, q1, q2⟩ := rp_cons g3
      obtain ⟨x2, r2, rfl, q3, q4⟩ := rp_cons q2
      cases e0
      cases q1
      cases q4
      have ex0 : exS cs ms (.later e) s = valE (ev (lkR cs ms) s e) fun n s => if s.ltr.length < 100000 then (.k "done", { s with ltr := s.ltr ++ [n] }) else (.x, s) := rfl
      have lt : (fldR p).lookup ("later" : Str) = some (.ref p.ll) := rfl
      refine if_str (te_var rfl) (fun z => absurd z (show ¬ (("later" : Str) = "set") by decide +kernel)) fun _ => ?_
      refine if_str (te_var rfl) (fun z => absurd z (show ¬ (("later" : Str) = "put") by decide +kernel)) fun _ => ?_
      refine if_str (te_var rfl) (fun _ => ?_) fun z => absurd rfl z
      refine go_app (te_fld (te_var rfl) R.at_.ob T.cl_Run T.no_Run_later lt) R.at_.ltr ?_
      refine go_value (p := p) (e := e) (v := x2) rfl (te_ixT (te_var rfl) te_c (Same.sqT R.sb g1) (atI_nat (j := 1) rfl)) R q3 ok (fun m s' H1 ev1 hn S1 => ?_) fun rr s' d H1 ev1 S1 d0 d1 => ?_
      · rw [ev1] at ex0
        have ex1 : exS cs ms (.later e) s = if s'.ltr.length < 100000 then (.k "done", { s' with ltr := s'.ltr ++ [m] }) else (.x, s') := ex0
        by_cases q : s'.ltr.length < 100000
        · rw [if_pos q] at ex1
          refine ⟨p.ll, _, .int m, rfl, rfl, S1.run.at_.ltr, by rw [List.length_map, sizeLine_eq]; omega, ?_⟩
          exact ⟨_, p, ex1, S1.trans (S1.run.putT hn)⟩
        · rw [if_neg q] at ex1
          exact absurd (by rw [ex1]) nx
      · exact k2 rr s' d H1 p (by rw [ex0, ev1]; rfl) S1 d0 d1
    | cond c x y =>
      obtain ⟨t', xs, e0, g1, g2, g3⟩ := rp_tup r
      obtain ⟨x1, r1, rfl, q1, q2⟩ := rp_cons g3
      obtain ⟨x2, r2, rfl, q3, q4⟩ := rp_cons q2
      obtain ⟨x3, r3, rfl, q5, q6⟩ := rp_cons q4
      obtain ⟨x4, r4, rfl, q7, q8⟩ := rp_cons q6
      cases e0
      cases q1
      cases q8
      have hdp : max x.dp y.dp + 1 < n + 1 := hdp
      have ex0 : exS cs ms (.cond c x y) s = valE (ev (lkR cs ms) s c) fun n s => if n ≠ 0 then exB cs ms x s else exB cs ms y s := rfl
      refine if_str (te_var rfl) (fun z => absurd z (show ¬ (("if" : Str) = "set") by decide +kernel)) fun _ => ?_
      refine if_str (te_var rfl) (fun z => absurd z (show ¬ (("if" : Str) = "put") by decide +kernel)) fun _ => ?_
      refine if_str (te_var rfl) (fun z => absurd z (show ¬ (("if" : Str) = "later") by decide +kernel)) fun _ => ?_
      refine if_str (te_var rfl) (fun _ => ?_) fun z => absurd rfl z
      refine ⟨_, rfl, p.self, p.dx, fldR p, rfl, R.at_.ob, rfl, ?_⟩
      refine go_value (p := p) (e := c) (v := x2) rfl (te_ixT (te_var rfl) te_c (Same.sqT R.sb g1) (atI_nat (j := 1) rfl)) R q3 ok.1 (fun m s' H1 ev1 hn S1 => ?_) fun rr s' d H1 ev1 S1 d0 d1 => ?_
      · rw [ev1] at ex0
        have ex1 : exS cs ms (.cond c x y) s = if m ≠ 0 then exB cs ms x s' else exB cs ms y s' := ex0
        have ht1 := Same.sqT S1.run.sb g1
        refine ⟨rfl, _, rfl, ite3 (fun h => ?_) fun h => ?_⟩
        · have hm : m ≠ 0 := by
            rw [deq_int] at h
            simpa using h
          rw [if_pos hm] at ex1
          refine (te_ixT (te_var rfl) te_c ht1 (atI_nat (j := 2) rfl) : Te _ _ _ x3) _ ⟨p, B, x, x3, names, cs, ms, s', rfl, S1.run, q5, ok.2.1, by omega, fun z => nx (by rw [ex1]; exact z), fun wd s4 H4 q ex S4 => ?_, fun rr s4 d H4 q ex S4 d0 d1 => ?_⟩
          · exact k1 wd s4 H4 q (by rw [ex1, ex]) (S1.trans S4)
          · exact k2 rr s4 d H4 q (by rw [ex1, ex]) (S1.trans S4) (NK.back S1.al d0) d1
        · have hm : ¬ m ≠ 0 := by
            rw [deq_int] at h
            simpa using h
          rw [if_neg hm] at ex1
          refine (te_ixT (te_var rfl) te_c ht1 (atI_nat (j := 3) rfl) : Te _ _ _ x4) _ ⟨p, B, y, x4, names, cs, ms, s', rfl, S1.run, q7, ok.2.2, by omega, fun z => nx (by rw [ex1]; exact z), fun wd s4 H4 q ex S4 => ?_, fun rr s4 d H4 q ex S4 d0 d1 => ?_⟩
          · exact k1 wd s4 H4 q (by rw [ex1, ex]) (S1.trans S4)
          · exact k2 rr s4 d H4 q (by rw [ex1, ex]) (S1.trans S4) (NK.back S1.al d0) d1
      · exact k2 rr s' d H1 p (by rw [ex0, ev1]; rfl) S1 d0 d1
    | rep c x =>
      refine if_str (te_var rfl) (fun z => absurd z (show ¬ (("repeat" : Str) = "set") by decide +kernel)) fun _ => ?_
      refine if_str (te_var rfl) (fun z => absurd z (show ¬ (("repeat" : Str) = "put") by decide +kernel)) fun _ => ?_
      refine if_str (te_var rfl) (fun z => absurd z (show ¬ (("repeat" : Str) = "later") by decide +kernel)) fun _ => ?_
      refine if_str (te_var rfl) (fun z => absurd z (show ¬ (("repeat" : Str) = "if") by decide +kernel)) fun _ => ?_
      refine if_str (te_var rfl) (fun _ => ?_) fun z => absurd rfl z
      exact go_meth (vs := [.ref t]) rfl R.at_.ob rfl (ta_cons (te_var rfl) ta_nil) ⟨p, B, _, _, names, cs, ms, s, rfl, R, r, ok, ⟨⟨c, x, rfl⟩, hdp⟩, nx, k1, k2⟩
    | choose x y =>
      refine if_str (te_var rfl) (fun z => absurd z (show ¬ (("choose" : Str) = "set") by decide +kernel)) fun _ => ?_
      refine if_str (te_var rfl) (fun z => absurd z (show ¬ (("choose" : Str) = "put") by decide +kernel)) fun _ => ?_
      refine if_str (te_var rfl) (fun z => absurd z (show ¬ (("choose" : Str) = "later") by decide +kernel)) fun _ => ?_
      refine if_str (te_var rfl) (fun z => absurd z (show ¬ (("choose" : Str) = "if") by decide +kernel)) fun _ => ?_
      refine if_str (te_var rfl) (fun z => absurd z (show ¬ (("choose" : Str) = "repeat") by decide +kernel)) fun _ => ?_
      refine if_str (te_var rfl) (fun _ => ?_) fun z => absurd rfl z
      exact go_meth (vs := [.ref t]) rfl R.at_.ob rfl (ta_cons (te_var rfl) ta_nil) ⟨p, B, _, _, names, cs, ms, s, rfl, R, r, ok, ⟨⟨x, y, rfl⟩, hdp⟩, nx, k1, k2⟩
    | word z =>
      have ok : z ∈ (["retry", "undo"] : List Str) := ok
      have hz : z ∉ keyW := by
        rcases List.mem_cons.mp ok with e | e
        · rw [e]
          decide
        · rw [List.mem_singleton.mp e]
          decide
      have no : ∀ y ∈ keyW, z ≠ y := fun y hy e => hz (by rw [e]; exact hy)
      refine if_str (te_var rfl) (fun e => absurd e (no _ (by decide))) fun _ => ?_
      refine if_str (te_var rfl) (fun e => absurd e (no _ (by decide))) fun _ => ?_
      refine if_str (te_var rfl) (fun e => absurd e (no _ (by decide))) fun _ => ?_
      refine if_str (te_var rfl) (fun e => absurd e (no _ (by decide))) fun _ => ?_
      refine if_str (te_var rfl) (fun e => absurd e (no _ (by decide))) fun _ => ?_
      refine if_str (te_var rfl) (fun e => absurd e (no _ (by decide))) fun _ => ?_
      exact ret_te (te_var rfl) (k1 z s H p rfl (Stp.refl R))
  · rintro σ H' ⟨s', q, ex, S⟩
    exact ret_te te_c (k1 "done" s' H' q ex S)
end
end K13

namespace K13
open PySem L2 YF NdefX
def tl : Bd → Nat → Bd
  | b, 0 => b
  | .nil, _ => .nil
  | .cons _ r, n + 1 => tl r n
theorem tl_nil : ∀ n, tl .nil n = .nil
  | 0 => rfl
  | _ + 1 => rfl
theorem row_at {K : PySem.W.Frag} {B : Hp} {names : List Str} : ∀ {b : Bd} {xs : List V} {j : Nat} {x : V}, Rp K B b.row xs → xs[j]? = some x → b.ok names → ∃ st, tl b j = .cons st (tl b (j + 1)) ∧ Rp K B st.d [x] ∧ st.ok names ∧ st.dp ≤ b.dp
  | .nil, xs, j, x, h, e, _ => by
    have h : xs = [] := h
    rw [h] at e
    cases e
  | .cons s r, xs, 0, x, h, e, ok => by
    obtain ⟨y, ys, rfl, q1, q2⟩ := rp_cons h
    cases e
    refine ⟨s, ?_, q1, ok.1, Nat.le_max_left _ _⟩
    show Bd.cons s r = .cons s (tl r 0)
    cases r <;> rfl
  | .cons s r, xs, j + 1, x, h, e, ok => by
    obtain ⟨y, ys, rfl, q1, q2⟩ := rp_cons h
    obtain ⟨st, e1, e2, e3, e4⟩ := row_at (j := j) q2 (by simpa using e) ok.2
    exact ⟨st, e1, e2, e3, Nat.le_trans e4 (Nat.le_max_right _ _)⟩
theorem row_end {K : PySem.W.Frag} {B : Hp} : ∀ {b : Bd} {xs : List V}, Rp K B b.row xs → tl b xs.length = .nil
  | .nil, xs, h => tl_nil _
  | .cons s r, xs, h => by
    obtain ⟨y, ys, rfl, q1, q2⟩ := rp_cons h
    exact row_end (b := r) q2
section
variable {P : Program} {w : World} {K : PySem.W.Frag} {mg : Str → Option Value} {base : Heap} {A : Adr}
theorem list_of_do {n : Nat} (T : Txt K mg A) (ihd : FnOk P w K mg base (L2N.CX P w) (3 * n + 16) A.a_Run__do A.d_Run__do ["self", "statement"] (spStm K A (fun b => b.dp < n + 1) fun w => .str w)) : FnOk P w K mg base (L2N.CX P w) (3 * (n + 1) + 14) A.a_Run_do_list A.d_Run_do_list ["self", "statements"] (spList K A (n + 1)) := by
  refine okN (k := 3 * n + 16) T.F_Run_do_list sc_Run_do_list (fun vs H Q E ⟨_, _, _, _, _, _, _, _, e, _⟩ => by rw [e]; rfl) (fun cdv A' outer s0 H vs Q E hr h => ?_)
  obtain ⟨p, B, b, v, names, cs, ms, s, rfl, R, r, ok, hdp, nx, k1, k2⟩ := h
  refine ⟨_, pss_cons (ps_for PassesOwn.leaving rfl (pi_list (pv 1)) (pg_name (i := 2) sc_Run_do_list.nd rfl (Or.inl rfl))
  (pss_cons (ps_set (i := 3) sc_Run_do_list.nd rfl (Or.inl rfl) (pe_methE (pv 0) T.cl_Run T.m_Run__do (ihd) (hr.mono (by omega)) T.b_Run__do (fun σ => L2N.passAt (L2N.takes_of rfl rfl rfl rfl) σ) (pa_cons (pv 2) pa_nil)))
  (pss_one (ps_if (pt_cmpR op_ne (pv 3) (pe_str) (nomark _))
  (pss_one (ps_ret (pv 3)))
  (pss_nil)))))
  (pss_one (ps_ret (pe_str))), ?_⟩
  obtain ⟨a, xs, e0, h1, h2, h3⟩ := r
  cases e0
  refine ⟨_, rfl, a, rfl, ⟨_, Same.sqL R.sb h1⟩, for_list (K := K) (a := a) (xs := xs) (fun j σ H' => ∃ (v2 v3 : Option V) (s' : RS) (q : Pl), σ = [some (.ref q.self), some (.ref a), v2, v3] ∧ Stp K A H B p names cs ms s' H' q ∧ exB cs ms b s = exB cs ms (tl b j) s') ⟨none, none, s, p, rfl, Stp.refl R, by cases b <;> rfl⟩ (fun j σ H' _ ⟨_, _, _, _, _, S, _⟩ => Same.sqL S.run.sb h1) ?_ ?_⟩
  · rintro j x σ H1 hj ⟨v2, v3, s', q, rfl, S, ex⟩
    obtain ⟨st, et, rs, oks, dps⟩ := row_at h3 hj ok
    rw [et] at ex
    have ex : exB cs ms b s = andB (exS cs ms st s') (exB cs ms (tl b (j + 1))) := ex
    dsimp only [gName]
    refine set_sl (σ' := [some (.ref q.self), some (.ref a), some x, v3]) rfl ?_
    refine go_meth (vs := [x]) rfl S.run.at_.ob rfl (ta_cons (te_var rfl) ta_nil) ⟨q, B, st, x, names, cs, ms, s', rfl, S.run, rs, oks, by omega, fun z => nx (by rw [ex]; exact andB_x z), fun wd s2 H2 q2 e2 S2 => ?_, fun rr s2 d H2 q2 e2 S2 d0 d1 => ?_⟩
    · rw [e2] at ex
      dsimp only [gName]
      refine set_sl (σ' := [some (.ref q.self), some (.ref a), some x, some (.str wd)]) rfl ?_
      refine if_go (tt_test (te_ne (te_var rfl) te_c rfl)) (fun h => ?_) fun h => ?_
      · have h : wd ≠ "done" := by
          rw [deq_str] at h
          simpa using h
        exact ret_te (te_var rfl) (k1 wd s2 H2 q2 (by rw [ex]; show (if wd = "done" then _ else _) = _; rw [if_neg h]) (S.trans S2))
      · have h : wd = "done" := by
          rw [deq_str] at h
          simpa using h
        refine ⟨_, _, s2, q2, by rw [S2.nx.self], S.trans S2, ?_⟩
        rw [ex]
        show (if wd = "done" then _ else _) = _
        rw [if_pos h]
    · exact k2 rr s2 d H2 q2 (by rw [ex, e2]; rfl) (S.trans S2) (NK.back S.al d0) d1
  · rintro σ H1 ⟨v2, v3, s', q, rfl, S, ex⟩
    rw [row_end h3] at ex
    dsimp only
    exact ret_te te_c (k1 "done" s' H1 q ex S)
theorem ok_Run_do_list (TB : LamX.TabB base mg A.c_Run__value A.t_Run__value) (T : Txt K mg A) : ∀ n : Nat, FnOk P w K mg base (L2N.CX P w) (3 * n + 14) A.a_Run_do_list A.d_Run_do_list ["self", "statements"] (spList K A n) := by
  intro n
  induction n with
  | zero => exact ⟨fun vs H Q E ⟨_, _, _, _, _, _, _, _, e, _⟩ => by rw [e]; rfl, fun A' outer s H args us vs Q E hr e0 hb r ⟨_, _, _, _, _, _, _, _, _, _, _, _, h, _⟩ => absurd h (Nat.not_lt_zero _)⟩
  | succ n ih => exact list_of_do T (ok_Run__do TB T ih)
end
end K13

namespace K13
open PySem L2 YF NdefX
section
variable {P : Program} {w : World} {K : PySem.W.Frag} {mg : Str → Option Value} {base : Heap} {A : Adr}
/-- a list of pairs: names and values -/
def PrAt (K : PySem.W.Frag) (H : Hp) (pn : Addr) (kvs : Kv) : Prop := ∃ ps : List Addr, SqL K H pn (ps.map V.ref) ∧ Paired (fun p kv => SqT K H p [kV kv.1, kv.2]) ps kvs
theorem PrAt.mono {H H' : Hp} {pn : Addr} {kvs : Kv} (h : PrAt K H pn kvs) (s : Same H H') : PrAt K H' pn kvs := by
  obtain ⟨ps, h1, h2⟩ := h
  exact ⟨ps, Same.sqL s h1, paired_mapP h2 fun p kv q => Same.sqT s q⟩
/-- self.f = a new object -/
theorem new_fld {σ : L2.St} {H : Hp} {te : TE} {D : Ends} {i : Nat} {x C dx : Addr} {fs : List (Str × V)} {f : Str} {o : HO} (hs : σ[i]? = some (some (.ref x))) (hx : H x = some (.ins C dx fs)) (c : Cls K C) (n : NoAttr K C f) (l : fs.length < 1000) (hte : ∀ Q : VK, (∀ a, H a = none → Q (.ref a) (upd H a o)) → te σ H Q)
    (k : ∀ a H', H a = none → a ≠ x → (∀ b u, b ≠ x → H b = some u → H' b = some u) → H' a = some o → H' x = some (.ins C dx (putF f (.ref a) fs)) → (∀ b, H' b = none → H b = none) → D.nx σ H') : sFld K (tVar i) te f D σ H :=
  hte _ fun a ha => by
    have nax : a ≠ x := (ne_of_none hx ha).symm
    refine ⟨_, hs, x, C, dx, fs, rfl, by rw [upd_ne nax.symm]; exact hx, c, n, l, k a _ ha nax (fun b u nb e => ?_) (by rw [upd_ne nax]; exact upd_same) upd_same fun b e => ?_⟩
    · rw [upd_ne nb, upd_ne (ne_of_none e ha)]
      exact e
    · by_cases z : b = x
      · rw [z, upd_same] at e
        cases e
      · rw [upd_ne z] at e
        by_cases z2 : b = a
        · rw [z2]
          exact ha
        · rw [upd_ne z2] at e
          exact e
def spInitR (K : PySem.W.Frag) (C : Addr) : Sp := fun vs H Q _ => ∃ (x dx pc pn pm : Addr) (B : Hp) (cs : List Cl) (kvs : Kv) (ms : List Int), vs = [.ref x, .ref pc, .ref pn, .ref pm] ∧ H x = some (.ins C dx []) ∧ Same B H ∧ B x = none ∧ CellsIn K B pc cs ∧ PrAt K B pn kvs ∧ B pm = some (.lst (ms.map V.int)) ∧
  ∀ (p : Pl) H', p.self = x → p.pc = pc → p.pm = pm → H p.dl = none → H p.dr = none → H p.dw = none → H p.ll = none → (∀ b o, b ≠ x → H b = some o → H' b = some o) → RunAt K C H' p cs ms ⟨mergeK [] kvs, [], [], []⟩ → Q .non H'
theorem ok_Run___init__ (T : Txt K mg A) : FnOk P w K mg base CX0 1 A.a_Run___init__ A.d_Run___init__ ["self", "cells", "locals_now", "memory"] (spInitR K A.a_Run) := by
  refine T.F_Run___init__.ok sc_Run___init__ (fun vs H Q E ⟨_, _, _, _, _, _, _, _, _, e, _⟩ => by rw [e]; rfl) (fun cdv A' outer s0 H vs Q E hr h => ?_)
  obtain ⟨x, dx, pc, pn, pm, B, cs, kvs, ms, rfl, hx, sb, bx, hc, hn, hm, k⟩ := h
  refine ⟨_, pss_cons (ps_fld (pv 0) (pv 1) rfl)
  (pss_cons (ps_fld (pv 0) (pv 3) rfl)
  (pss_cons (ps_fld (pv 0) (pe_callTy (call_dictP rfl) (by rfl) T.n_dict (by decide +kernel) (pa_cons (pv 2) pa_nil)) rfl)
  (pss_cons (ps_fld (pv 0) (pe_dnewK) rfl)
  (pss_cons (ps_fld (pv 0) (pe_dnewK) rfl)
  (pss_one (ps_fld (pv 0) (pe_lst pa_nil) rfl)))))), ?_⟩
  have short : ∀ {l : List (Str × V)}, l.length ≤ 6 → l.length < 1000 := fun h => by omega
  refine st_fld (te_var rfl) (te_var rfl) hx T.cl_Run T.no_Run__cells (by show 0 < 1000; decide) ?_
  refine st_fld (te_var rfl) (te_var rfl) upd_same T.cl_Run T.no_Run__memory (by show 1 < 1000; decide) ?_
  have s1 : ∀ b o, b ≠ x → H b = some o → (upd (upd H x (.ins A.a_Run dx (putF "_cells" (.ref pc) []))) x (.ins A.a_Run dx (putF "_memory" (.ref pm) (putF "_cells" (.ref pc) [])))) b = some o := fun b o n e => by
    rw [upd_ne n, upd_ne n]
    exact e
  have d1 : ∀ {b : Addr}, (upd (upd H x (.ins A.a_Run dx (putF "_cells" (.ref pc) []))) x (.ins A.a_Run dx (putF "_memory" (.ref pm) (putF "_cells" (.ref pc) [])))) b = none → H b = none := fun {b} e => by
    by_cases n : b = x
    · rw [n, upd_same] at e
      cases e
    · rw [upd_ne n, upd_ne n] at e
      exact e
  have e1 : (upd (upd H x (.ins A.a_Run dx (putF "_cells" (.ref pc) []))) x (.ins A.a_Run dx (putF "_memory" (.ref pm) (putF "_cells" (.ref pc) [])))) x = some (.ins A.a_Run dx [("_cells", .ref pc), ("_memory", .ref pm)]) := upd_same
  generalize upd (upd H x (HO.ins A.a_Run dx (putF "_cells" (.ref pc) []))) x (HO.ins A.a_Run dx (putF "_memory" (.ref pm) (putF "_cells" (.ref pc) []))) = H1 at s1 d1 e1 ⊢
  have sB1 : Same B H1 := fun b o e => s1 b o (fun z => by rw [z, bx] at e; cases e) (sb _ _ e)
  obtain ⟨ps, g1, g2⟩ := hn.mono sB1
  refine sq_go (new_fld (o := .dK (mergeK [] kvs)) rfl e1 T.cl_Run T.no_Run_locals_now (by show 2 < 1000; decide) (fun Q q => ⟨_, rfl, pn, ps, kvs, rfl, g1, g2, q⟩) fun dl H2 hdl ndl s2 u2 e2 d2 => ?_)
  dsimp only
  refine sq_go (new_fld (o := .dK []) rfl e2 T.cl_Run T.no_Run_reads (by show 3 < 1000; decide) (fun Q q => q) fun dr H3 hdr ndr s3 u3 e3 d3 => ?_)
  dsimp only
  refine sq_go (new_fld (o := .dK []) rfl e3 T.cl_Run T.no_Run_writes (by show 4 < 1000; decide) (fun Q q => q) fun dw H4 hdw ndw s4 u4 e4 d4 => ?_)
  dsimp only
  refine new_fld (o := .lst []) rfl e4 T.cl_Run T.no_Run_later (by show 5 < 1000; decide) (fun Q q => ⟨Nat.zero_le _, q⟩) fun ll H5 hll nll s5 u5 e5 d5 => ?_
  have sH : ∀ b o, b ≠ x → H b = some o → H5 b = some o := fun b o n e => s5 _ _ n (s4 _ _ n (s3 _ _ n (s2 _ _ n (s1 _ _ n e))))
  have sB : Same B H5 := fun b o e => sH b o (fun z => by rw [z, bx] at e; cases e) (sb _ _ e)
  have e5 : H5 x = some (.ins A.a_Run dx (fldR ⟨x, dx, pc, pm, dl, dr, dw, ll⟩)) := e5
  have nz : ∀ {a b : Addr} {G : Hp} {o : HO}, G a = some o → G b = none → a ≠ b := fun e h => ne_of_none e h
  refine k ⟨x, dx, pc, pm, dl, dr, dw, ll⟩ H5 rfl rfl rfl (d1 hdl) (d1 (d2 _ hdr)) (d1 (d2 _ (d3 _ hdw))) (d1 (d2 _ (d3 _ (d4 _ hll)))) sH
    ⟨e5, hc.mono sB, sB _ _ hm, s5 _ _ ndl (s4 _ _ ndl (s3 _ _ ndl u2)), s5 _ _ ndr (s4 _ _ ndr u3), s5 _ _ ndw u4, u5, nz u2 hdr, (nz u3 hdw).symm, nz (s3 _ _ ndl u2) hdw⟩
end
end K13

/-! a making with keyword-only parameters while an exception is handled -/
namespace YF
open PySem PySem.Spec PyProof.Rows L2
section
variable {X : Cx} {CX : CXT} {k n : Nat} {f C : Addr} {fd : FuncData} {ps ks : List Str} {sp : Sp} {E : XK} {x : Str} {p pos : Pos} {e : Expr} {es : List Expr} {kws : List Keyword} {t tk : TA} {g : List Value → List Value → List Value} {gV : List V → List V → List V}
theorem run_makeKH {pins : List (Addr × Obj)} {σ : L2.St} {H : Hp} {s : Shared} {Q : VK} {uP uK : List Value} {vP vK : List V} (mk : Mk X.K C f) (fn : L2H.FnH X.prog X.w X.K X.mg X.base CX k f fd ps sp) (room : L2H.RoomH (k + 1) X.A) (hot : L2H.HotC X) (kb : KBn X.K fd ps (n + 1) ks g gV) (px : Passes CX X E)
    (I : Inv X pins σ H s) (rP : Vals vP uP) (rK : Vals vK uK) (lP : vP.length = n) (lK : vK.length = ks.length)
    (q : ∀ y dy, H y = none → H dy = none → dy ≠ y → sp (gV (.ref y :: vP) vK) (upd (upd H dy (.own y)) y (.ins C dy [])) (fun v G => v = .non ∧ Q (.ref y) G) E) :
    wpAny (model X.prog X.w) X.A (call (.ref C) uP (ks.zip uK)) (EP X pins σ Q) X.xe s := by
  obtain ⟨z, hz, mz⟩ := hot
  have J := I.made (C := C)
  have q0 := q _ _ (I.hok.fresh (Nat.le_succ s.heap.objs.size)) (I.hok.fresh (Nat.le_refl s.heap.objs.size)) (Nat.ne_of_lt (Nat.lt_succ_self s.heap.objs.size))
  have rS : Vals (V.ref (s.heap.objs.size + 1) :: vP) (Value.ref (s.heap.objs.size + 1) :: uP) := .cons rfl rP
  have lS : (Value.ref (s.heap.objs.size + 1) :: uP).length = n + 1 := by
    rw [← rS.length, List.length_cons, lP]
  have pz := J.pin z (List.mem_append_left _ mz)
  have oz := L2H.PinOk.mk (outer := X.stack) pz.1 pz.2.1 (fun m => (List.mem_cons.mp (J.stkSub z.1 m)).elim pz.2.2.1 pz.2.2.2.1) pz.2.2.2.2
  have go := fn.run _ X.stack _ _ ⟨_, ks.zip uK⟩ _ _ _ E z (room.make C uP (ks.zip uK)) ⟨hz.1, hz.2⟩ oz (J.env0.make C uP (ks.zip uK)) (kb.to _ _ uK J.kIn lS (rK.length.symm.trans lK)) (kb.rel rS rK) q0
  refine wpAny_call (make_map (f := f) I.kIn mk.makes mk.init (beq_iff_eq.mp mk.fn) (codeAny_mono go fun res t ht => ?_))
  match res, ht with
  | .error er, ht => exact px pins σ _ _ er t J ht
  | .ok (.ret u), ht =>
    obtain ⟨v, G, I3, rv, ev, q3⟩ := J.after ht
    cases ev
    exact ⟨rv, V.ref (s.heap.objs.size + 1), G, I3, rfl, q3⟩
  | .ok .next, ht => exact False.elim ht
  | .ok .brk, ht => exact False.elim ht
  | .ok .cont, ht => exact False.elim ht
theorem pe_makeKH (mk : Mk X.K C f) (fn : L2H.FnH X.prog X.w X.K X.mg X.base CX k f fd ps sp) (room : L2H.RoomH (k + 1) X.A) (hot : L2H.HotC X) (gl : Gl X x) (hm : X.mg x = some (.ref C)) (kb : KBn X.K fd ps (n + 1) ks g gV) (px : Passes CX X E) (pa : PA X (e :: es) t) (pk : PK X kws tk)
    (all : (backToKw pos (keywordEach kws X.env)).all (·.1.isSome) = true := by rfl) (names : (backToKw pos (keywordEach kws X.env)).filterMap (·.1) = ks := by rfl) (nd : (x == ("__debug__" : Str)) = false := by decide)
    (each : starEach (e :: es) X.env = (false, eval e X.env) :: starEach es X.env := by rfl) (plain : ((backTo pos (starEach (e :: es) X.env)).any (·.1) || (backToKw pos (keywordEach kws X.env)).any (·.1.isNone)) = false := by rfl) :
    PE X (.Call (.Name x p) (e :: es) kws pos) (tMakeK C n (List.length ks) sp gV E t tk) := by
  refine ⟨fun pins s σ H Q I q => wpAny_Call_Name_kw (ld_glob I gl hm ?_ nd)⟩
  refine PySem.W.callWith_KW (h₀ := X.base) I.ok.mod.kin mk.kp all (thn (pa.run pos pins s σ H _ I q) fun uP s1 ⟨vP, H1, I1, rP, q1⟩ => ?_) plain each
  refine thn (pk.run pos pins s1 σ H1 _ I1 q1) fun uK s2 ⟨vK, H2, I2, rK, lP, lK, q2⟩ => ⟨I2.kIn, ?_⟩
  rw [names]
  exact run_makeKH mk fn room hot kb px I2 rP rK lP lK q2
end
/-- a def with keyword-only defaults, called while an exception is handled -/
theorem okHD {P : Program} {w : World} {K : PySem.W.Frag} {mg : Str → Option Value} {base : Heap} {x qual : Str} {params : Arguments} {body : List Stmt} {scope : Scope} {dvs : List V} {kws : List (Str × V)} {f : Addr} {fd : FuncData} {N ps : List Str} {k : Nat} {sp : Sp} (F : FunD K x qual params body scope dvs kws f fd) (S : FnScope N ps scope) (len : ∀ (vs : List V) (H : Hp) (Q : VK) (E : XK), sp vs H Q E → vs.length = ps.length)
    (hb : ∀ (cdv : Value) (A : Around) (outer : List PySem.Env) (s : Shared) (H : Hp) (vs : List V) (Q : VK) (E : XK) (p : Addr × Obj), L2H.Hot1 A p → L2H.RoomH k (A.deeper (PyProof.Rows.envOfC qual scope s.heap.objs.size f cdv)) → sp vs H Q E →
      ∃ t, PSs (L2H.cxH CX0 P w K mg base N qual scope f cdv A outer s H E p) body t ∧ t { nx := fun _ H' => Q V.non H', rt := Q } (L2.start N vs) H) : L2H.FnH P w K mg base CX0 (k + 1) f fd ps sp := by
  obtain ⟨_, _, _, _, _, _, _, cv, _, _, rfl, lk, cd, _, _⟩ := F.ex
  exact L2H.fn_ofH lk cd S len fun A outer s H vs Q E p hot hr h => hb cv A outer s H vs Q E p hot hr h
theorem okH0 {P : Program} {w : World} {K : PySem.W.Frag} {mg : Str → Option Value} {base : Heap} {x qual : Str} {st : Stmt} {f : Addr} {fd : FuncData} {N ps : List Str} {k : Nat} {sp : Sp} (F : Fun K x qual st f fd) (S : FnScope N ps (defScope st)) (len : ∀ (vs : List V) (H : Hp) (Q : VK) (E : XK), sp vs H Q E → vs.length = ps.length)
    (hb : ∀ (cdv : Value) (A : Around) (outer : List PySem.Env) (s : Shared) (H : Hp) (vs : List V) (Q : VK) (E : XK) (p : Addr × Obj), L2H.Hot1 A p → L2H.RoomH k (A.deeper (PyProof.Rows.envOfC qual (defScope st) s.heap.objs.size f cdv)) → sp vs H Q E →
      ∃ t, PSs (L2H.cxH CX0 P w K mg base N qual (defScope st) f cdv A outer s H E p) (defBody st) t ∧ t { nx := fun _ H' => Q V.non H', rt := Q } (L2.start N vs) H) : L2H.FnH P w K mg base CX0 (k + 1) f fd ps sp := by
  obtain ⟨_, _, _, _, _, _, cv, _, _, rfl, lk, cd⟩ := F.ex
  exact L2H.fn_ofH lk cd S len fun A outer s H vs Q E p hot hr h => hb cv A outer s H vs Q E p hot hr h
/-- the suite of a handled exception is hot -/
theorem hotS {X : Cx} {a : Addr} {oe : Obj} {cls : Value} {d : Option Addr} {pn : List (Addr × Obj)} (hz : L2N.Zn cls d oe) (hf : ∃ vs, oe.data = Data.fields vs) : L2H.HotC (X.suite a ((a, oe) :: pn)) := by
  obtain ⟨vs, e⟩ := hf
  exact ⟨(a, oe), ⟨rfl, vs, e, hz.2.2 vs e⟩, List.mem_cons_self⟩
end YF

/-! a comprehension over a list while an exception is handled -/
namespace YF
open PySem PySem.Spec PyProof.Rows L2
theorem list_done {prog : Program} {w : World} {A : Around} {E : Value → Shared → Prop} {s : Shared} {p l z : Addr} {n : Nat} {row : Array Value} {Q : Option Value → Shared → Prop} (hot : HotX.HotAt A z s.heap) (hp : s.heap.IsListIter p l n) (hl : s.heap.IsList l row) (out : row[n]? = none)
    (q : ∀ h2, (∀ b u, b ≠ p → s.heap.get? b = some u → h2.get? b = some u) → Q none { s with heap := h2 }) : wpAny (model prog w) A (pyNext (.ref p)) Q E s := by
  obtain ⟨op, e1, k1, d1⟩ := id hp
  obtain ⟨ol, e2, _, c2, d2⟩ := hl
  obtain ⟨hA, oz, fz, e3, d3, n3⟩ := hot
  have nz : z ≠ p := fun e => by
    rw [e, e1] at e3
    cases e3
    rw [d1] at d3
    cases d3
    cases n3
  unfold pyNext
  refine wpAny_bind (wpAny_attempt (wpAny_callSpecial?_slot (name := Str.ofString "__next__") hp.typeIs slot_listiter_next (wpAny_call_entry slot_listiter_next hp.typeIs entry_listiter_next ?_ (args_listiter_next _))))
  show wpAny _ _ (field (.ref p) 0 >>= _) _ _ _
  refine wpAny_bind (wpAny_field e1 d1 (x := .ref l) rfl ?_)
  rw [if_neg (show ¬ ((Value.ref l == Value.none) = true) from Bool.noConfusion)]
  show wpAny _ _ (field (.ref p) 1 >>= _) _ _ _
  refine wpAny_bind (wpAny_field e1 d1 (x := .int n 0) rfl ?_)
  show wpAny _ _ (seqItems? (.ref l) >>= _) _ _ _
  refine wpAny_bind (wpAny_seqItems e2 d2 ?_)
  simp only [Int.toNat_natCast, out]
  refine wpAny_bind (wpAny_rule (wpAny_bind (wpAny_setField e1 d1 (by simp) ?_)))
  show wpAny _ A.in1 (newExc (.type "StopIteration") [] >>= _) _ _ _
  refine wpAny_bind ?_
  simp only [newExc, newTuple]
  refine wpAny_bind (wpAny_newObj_type (wpAny_bind (m := firstArgMember _ _) (wpAny_of_eq (a := Value.none) (by first | (simp only [firstArgMember]; rfl) | rfl) (wpAny_newObj_type ?_ (by size_fits)))) (by size_fits))
  have e4 := (Heap.get?_update_other s.heap (Obj.mapFields (·.setIfInBounds 0 .none)) nz.symm).trans e3
  refine HotX.raiseNew_hot ⟨hA, oz, fz, Heap.get?_push_of_some _ (Heap.get?_push_of_some _ e4), d3, n3⟩ (Nat.ne_of_lt (Heap.lt_size (Heap.get?_push_of_some _ e4))) (Heap.get?_push_size _ rfl) rfl (by first | (simp; done) | (simp; omega) | (simp only [Array.size_append]; simp; omega)) ?_
  refine wpAny_bind (wpAny_isInstance (b := true) (T := "StopIteration") ⟨_, Heap.get?_update_self _ (Heap.get?_push_size _ rfl) rfl, rfl⟩ isSubtype_stop (wpAny_pure (q _ fun b u nb e => ?_)))
  have e5 := (Heap.get?_update_other s.heap (Obj.mapFields (·.setIfInBounds 0 .none)) nb.symm).trans e
  refine (Heap.get?_update_other _ _ ?_).trans (Heap.get?_push_of_some _ (Heap.get?_push_of_some _ e5))
  exact Nat.ne_of_gt (Heap.lt_size (Heap.get?_push_of_some _ e5))
theorem tup_done {prog : Program} {w : World} {A : Around} {E : Value → Shared → Prop} {s : Shared} {p l z : Addr} {n : Nat} {row : Array Value} {Q : Option Value → Shared → Prop} (hot : HotX.HotAt A z s.heap) (hp : s.heap.IsTupleIter p l n) (hl : s.heap.IsTuple l row) (out : row[n]? = none)
    (q : ∀ h2, (∀ b u, b ≠ p → s.heap.get? b = some u → h2.get? b = some u) → Q none { s with heap := h2 }) : wpAny (model prog w) A (pyNext (.ref p)) Q E s := by
  obtain ⟨op, e1, k1, d1⟩ := id hp
  obtain ⟨ol, e2, _, c2, d2⟩ := hl
  obtain ⟨hA, oz, fz, e3, d3, n3⟩ := hot
  have nz : z ≠ p := fun e => by
    rw [e, e1] at e3
    cases e3
    rw [d1] at d3
    cases d3
    cases n3
  unfold pyNext
  refine wpAny_bind (wpAny_attempt (wpAny_callSpecial?_slot (name := Str.ofString "__next__") hp.typeIs F.slot_tuple_iterator_next (wpAny_call_entry F.slot_tuple_iterator_next hp.typeIs F.entry_tuple_iterator_next ?_ (F.args_tuple_iterator_next_1 _))))
  show wpAny _ _ (field (.ref p) 0 >>= _) _ _ _
  refine wpAny_bind (wpAny_field e1 d1 (x := .ref l) rfl ?_)
  rw [if_neg (show ¬ ((Value.ref l == Value.none) = true) from Bool.noConfusion)]
  show wpAny _ _ (field (.ref p) 1 >>= _) _ _ _
  refine wpAny_bind (wpAny_field e1 d1 (x := .int n 0) rfl ?_)
  show wpAny _ _ (seqItems? (.ref l) >>= _) _ _ _
  refine wpAny_bind (wpAny_seqItems e2 d2 ?_)
  simp only [Int.toNat_natCast, out]
  refine wpAny_bind (wpAny_rule (wpAny_bind (wpAny_setField e1 d1 (by simp) ?_)))
  show wpAny _ A.in1 (newExc (.type "StopIteration") [] >>= _) _ _ _
  refine wpAny_bind ?_
  simp only [newExc, newTuple]
  refine wpAny_bind (wpAny_newObj_type (wpAny_bind (m := firstArgMember _ _) (wpAny_of_eq (a := Value.none) (by first | (simp only [firstArgMember]; rfl) | rfl) (wpAny_newObj_type ?_ (by size_fits)))) (by size_fits))
  have e4 := (Heap.get?_update_other s.heap (Obj.mapFields (·.setIfInBounds 0 .none)) nz.symm).trans e3
  refine HotX.raiseNew_hot ⟨hA, oz, fz, Heap.get?_push_of_some _ (Heap.get?_push_of_some _ e4), d3, n3⟩ (Nat.ne_of_lt (Heap.lt_size (Heap.get?_push_of_some _ e4))) (Heap.get?_push_size _ rfl) rfl (by first | (simp; done) | (simp; omega) | (simp only [Array.size_append]; simp; omega)) ?_
  refine wpAny_bind (wpAny_isInstance (b := true) (T := "StopIteration") ⟨_, Heap.get?_update_self _ (Heap.get?_push_size _ rfl) rfl, rfl⟩ isSubtype_stop (wpAny_pure (q _ fun b u nb e => ?_)))
  have e5 := (Heap.get?_update_other s.heap (Obj.mapFields (·.setIfInBounds 0 .none)) nb.symm).trans e
  refine (Heap.get?_update_other _ _ ?_).trans (Heap.get?_push_of_some _ (Heap.get?_push_of_some _ e5))
  exact Nat.ne_of_gt (Heap.lt_size (Heap.get?_push_of_some _ e5))
theorem unpackH {prog : Program} {w : World} {A : Around} {E : Value → Shared → Prop} {s : Shared} {l z : Addr} {row : Array Value} {ts : List (Bool × (Value → Sem Unit))} {Q : Unit → Shared → Prop} (hot : HotX.HotAt A z s.heap) (hl : s.heap.IsTuple l row) (len : ts.length = row.size) (plain : ts.findIdx? (·.1) = none)
    (q : ∀ h2, (∀ b u, s.heap.get? b = some u → h2.get? b = some u) → wpAny (model prog w) A (assignInOrder (ts.map (·.2)) row.toList) Q E { s with heap := h2 }) : wpAny (model prog w) A (unpack (.ref l) ts) Q E s := by
  have nl : l ≠ s.heap.objs.size := by
    obtain ⟨o, e, _⟩ := hl
    exact Nat.ne_of_lt (Heap.lt_size e)
  obtain ⟨hA, oz, fz, e3, d3, n3⟩ := hot
  have nz : z ≠ s.heap.objs.size := Nat.ne_of_lt (Heap.lt_size e3)
  unfold unpack
  rw [len, plain]
  refine wpAny_bind (wpAny_holding ?_)
  unfold unpackItems
  refine wpAny_bind ?_
  unfold notIterableAtAll
  refine wpAny_bind (wpAny_specialOf hl.typeIs F.slot_tuple_iter.lookup (wpAny_pure ?_))
  simp only [Bool.false_eq_true, if_false]
  refine wpAny_bind (wpAny_holding (wpAny_pyIter_tuple hl (wpAny_bind (wpAny_holding (wpAny_draw_tuple nl row.size 0 _ _ ⟨_, Heap.get?_push_size _ rfl, rfl, rfl⟩ (hl.push _) (by omega) fun h1 it1 sb1 => ?_)))))
  have all : List.take row.size (List.drop 0 row.toList) = row.toList := by
    rw [List.drop_zero, List.take_of_length_le (by simp)]
  rw [all, if_neg (by simp)]
  refine wpAny_bind (wpAny_holding (tup_done (z := z) ⟨hA, oz, fz, ?_, d3, n3⟩ it1 ((hl.push _).extBut sb1.extBut nl) (by simp) fun h2 k2 => ?_))
  · exact (sb1.2 z nz).trans (Heap.get?_push_of_some _ e3)
  · simp only [Option.isSome_none, Bool.false_eq_true, if_false]
    refine wpAny_pure (q h2 fun b u e => k2 b u (Nat.ne_of_lt (Heap.lt_size e)) ?_)
    exact (sb1.2 b (Nat.ne_of_lt (Heap.lt_size e))).trans (Heap.get?_push_of_some _ e)
/-- (a, b) = t, a tuple, while an exception is handled -/
theorem pg_tupH {X : Cx} {es : List Expr} {k n : Nat} {pos : Pos} {t : TGs} (hot : L2H.HotC X) (pgs : PGs X es t) (len : (assignEach es X.env).length = n := by rfl) (plain : (assignEach es X.env).findIdx? (·.1) = none := by rfl) : PG X (.Tuple es k pos) (gTup X.K n t) := by
  refine ⟨fun pins s σ H v u Q I r ⟨a, xs, ev, hq, hl, go⟩ => ?_⟩
  subst ev
  cases r
  obtain ⟨its, rv, ht, _⟩ := I.tuple hq
  obtain ⟨z, hz⟩ := hot.at I
  rw [arm_assign_Tuple]
  refine wpAny_bind (wpAny_standAt (unpackH hz ht (by simp [len, ← hl, rv.length]) plain fun h2 kk => ?_))
  exact pgs.run pins _ σ H xs _ Q (I.kept (t' := s.toks) kk) (by simpa using rv) go
/-- the block's context, the handled exception pinned -/
abbrev blkH (X : Cx) (z : Addr × Obj) (s : Shared) (H : Hp) (scope : Scope) (cenv : PySem.Env) (fp : List Addr) : Cx := { X.blk s H scope cenv fp with pn := [z] }
theorem to_blkH {X : Cx} {z : Addr × Obj} {s0 : Shared} {H0 : Hp} {scope : Scope} {ce : PySem.Env} {fp : List Addr} {pins : List (Addr × Obj)} {σ : L2.St} {H : Hp} {s : Shared} (I : L2.Inv (X.blk s0 H0 scope ce fp) (z :: pins) σ H s) : L2.Inv (blkH X z s0 H0 scope ce fp) pins σ H s :=
  ⟨⟨I.ok.mod, I.ok.kind, I.ok.glob, I.ok.blt, I.ok.above, I.ok.inj, I.ok.has, I.ok.cab, I.ok.hd, I.ok.frames, I.ok.stk, I.ok.exf, I.ok.bs, I.ok.bsz, I.ok.noex, I.ok.exfs, I.ok.funs, I.ok.frf⟩, I.os, I.bare, I.base, I.loc, I.cell, I.free, I.freeC, I.pin, I.hok, I.len⟩
theorem of_blkH {X : Cx} {z : Addr × Obj} {s0 : Shared} {H0 : Hp} {scope : Scope} {ce : PySem.Env} {fp : List Addr} {pins : List (Addr × Obj)} {σ : L2.St} {H : Hp} {s : Shared} (I : L2.Inv (blkH X z s0 H0 scope ce fp) pins σ H s) : L2.Inv (X.blk s0 H0 scope ce fp) (z :: pins) σ H s :=
  ⟨⟨I.ok.mod, I.ok.kind, I.ok.glob, I.ok.blt, I.ok.above, I.ok.inj, I.ok.has, I.ok.cab, I.ok.hd, I.ok.frames, I.ok.stk, I.ok.exf, I.ok.bs, I.ok.bsz, I.ok.noex, I.ok.exfs, I.ok.funs, I.ok.frf⟩, I.os, I.bare, I.base, I.loc, I.cell, I.free, I.freeC, I.pin, I.hok, I.len⟩
section
variable {X : Cx} {tg iter elt : Expr} {scope : Scope} {own : List (Str × Nat)} {pos : Pos} {tl te : TE} {g : TG} {σ : L2.St} {pins : List (Addr × Obj)}
/-- what holds at the head of a turn: the block's context, the iterator p of the list at a -/
structure LcI (X : Cx) (sB : Shared) (HB : Hp) (scope : Scope) (env : PySem.Env) (σb : L2.St) (p a : Addr) (W : Nat → Nat → Hp → Prop) (m : Nat) (s : Shared) : Prop where
  ex : ∃ (i : Nat) (G : Hp), Inv (X.blk sB HB scope env [p]) [] σb G s ∧ s.heap.IsListIter p a i ∧ G p = none ∧ W i m G
theorem lcH_core {s : Shared} {H : Hp} {Q : VK} {pos' : Pos} {use : Option (Value → Sem Unit)} {R : Value → Shared → Prop} (hot : L2H.HotC X) (nd : X.N.Nodup) (I : Inv X pins σ H s) (pl : PE X iter tl) (ok : BlkOk X.N X.env.scope scope own)
    (pgs : ∀ (z : Addr × Obj) (hz : L2H.Hot1 X.A z) (s : Shared) (H : Hp) (C : Addr) (cl : List (Str × Addr)) (fp : List Addr), PG (blkH X z s H scope (compEnvC scope cl C X.env) fp) tg g)
    (pes : ∀ (z : Addr × Obj) (hz : L2H.Hot1 X.A z) (s : Shared) (H : Hp) (C : Addr) (cl : List (Str × Addr)) (fp : List Addr), PE (blkH X z s H scope (compEnvC scope cl C X.env) fp) elt te) (fold : ∀ x, foldedSetIterable iter X.env x = pure x)
    (h : tLc (iList X.K tl) g tYes te (own.map (·.2)) σ H Q)
    (out : ∀ D C s2 m G, Inv X pins σ G s2 → Q (.ref D) G → s2.heap.Ns C m → FpOk X pins G C → compPost (model X.prog X.w) X.A X.xe use R (.ref D) C (.ok .next) s2) :
    wpAny (model X.prog X.w) X.A (comprehension (.ListComp elt [⟨tg, iter, [], 0⟩] scope pos) scope X.env pos' (newList []) false (eval iter X.env) use) R X.xe s := by
  refine wpAny_comprehension_free (use := use) rfl fold (closure_ok fun y hy e => I.ok.has _ (ok.free y hy e)) ok.kind (fun y hy e => (ok.uniq y hy).trans (by rw [e])) ?_
  refine thn (pl.run pins s σ H _ I h) fun u s1 ⟨x, H1, I1, r1, a, ex, ⟨xs, hq⟩, q⟩ => ?_
  subst ex
  obtain rfl : u = .ref a := r1
  obtain ⟨its, rv, isl, _⟩ := I1.list hq
  refine wpAny_pyIter_list isl.isList ?_
  generalize ep : s1.heap.objs.size = p
  generalize es2 : ({ s1 with heap := s1.heap.push { cls := .type "list_iterator", data := .fields #[.ref a, .int 0 0] } } : Shared) = s2
  have hs2 : s2.heap = s1.heap.push { cls := .type "list_iterator", data := .fields #[.ref a, .int 0 0] } := by rw [← es2]
  have it2 : s2.heap.IsListIter p a 0 := ⟨_, by rw [hs2, ← ep]; exact Heap.get?_push_size _ rfl, rfl, rfl⟩
  have I2 : L2.Inv X pins σ H1 s2 := by
    rw [← es2]
    exact I1.kept (t' := s1.toks) fun b u e => Heap.get?_push_of_some _ e
  have fp2 : FpOk X pins H1 p := I1.fpOk (Nat.le_of_eq ep) (I1.hok.fresh (Nat.le_of_eq ep))
  have pD : p < s2.heap.objs.size := by rw [hs2, Heap.size_push, ← ep]; exact Nat.lt_succ_self _
  refine wpAny_newObj_type (newEnv_comp ?_) (show 0 ≤ sizeLine by decide)
  generalize eD : s2.heap.objs.size = D at pD
  have hD : H1 D = none := I2.hok.fresh (Nat.le_of_eq eD)
  obtain ⟨W, ⟨m0, w0⟩, turn⟩ := q D hD
  generalize es3 : ({ s2 with heap := s2.heap.push { cls := .type "list", data := .seq ([] : List Value).toArray } } : Shared) = s3
  have hs3 : s3.heap = s2.heap.push { cls := .type "list", data := .seq ([] : List Value).toArray } := by rw [← es3]
  have I3 : L2.Inv X pins σ (upd H1 D (.lst [])) s3 := by
    rw [← es3]
    exact I2.laid (t' := s2.toks) (fun b u e => Heap.get?_push_of_some _ e) (Nat.le_of_eq eD) ⟨Nat.zero_le _, [], 0, .nil, by rw [← eD]; exact Heap.get?_push_size _ rfl⟩
  have fp3 : FpOk X pins (upd H1 D (.lst [])) p := ⟨by rw [upd_ne (Nat.ne_of_lt pD)]; exact fp2.1, fp2.2⟩
  have sz3 : p < s3.heap.objs.size := by rw [hs3, Heap.size_push, eD]; exact Nat.lt_succ_of_lt pD
  have it3 : s3.heap.IsListIter p a 0 := by
    obtain ⟨u, e, c⟩ := it2
    exact ⟨u, by rw [hs3]; exact Heap.get?_push_of_some _ e, c⟩
  have I4 := block_start (fp := [p]) I3 ok nd fun b hb => by rw [List.mem_singleton.mp hb]; exact ⟨fp3, sz3⟩
  obtain ⟨z, hz, mz⟩ := id hot
  have pg := pgs z hz s3 (upd H1 D (.lst [])) s3.heap.objs.size (cellsFrom (s3.heap.objs.size + 1) scope.names (cloFrom X.env.cells scope.names [])) [p]
  have pe := pes z hz s3 (upd H1 D (.lst [])) s3.heap.objs.size (cellsFrom (s3.heap.objs.size + 1) scope.names (cloFrom X.env.cells scope.names [])) [p]
  generalize eC : s3.heap.objs.size = C at I4 pg pe
  show codeAny _ _ (.compStart _ 0 (.ref p) (.ref D) (compEnvC scope (cellsFrom (C + 1) scope.names (cloFrom X.env.cells scope.names [])) C X.env)) (compPost (model X.prog X.w) X.A X.xe use R (.ref D) C) { s3 with heap := pushCells (s3.heap.push { cls := .type "dict", data := .dict #[] }) scope.names }
  generalize ece : compEnvC scope (cellsFrom (C + 1) scope.names (cloFrom X.env.cells scope.names [])) C X.env = ce at I4 pg pe ⊢
  have lC : ce.locals = C := by rw [← ece]; rfl
  generalize hB : upd H1 D (HO.lst []) = HB at I3 I4 pg pe w0 fp3
  generalize es4 : ({ s3 with heap := pushCells (s3.heap.push { cls := .type "dict", data := .dict #[] }) scope.names } : Shared) = s4 at I4 ⊢
  have it4 : s4.heap.IsListIter p a 0 := by
    obtain ⟨u, e, c⟩ := it3
    exact ⟨u, by rw [← es4]; exact pushCells_keeps _ _ _ _ (Heap.get?_push_of_some _ e), c⟩
  -- back in the def's context
  have back : ∀ {s' : Shared} {σ' : L2.St} {G : Hp}, L2.Inv (X.blk s3 HB scope ce [p]) [] σ' G s' → L2.Inv X pins σ G s' := fun {s' σ' G} J => I3.call' (ch := [p]) J.os J.base J.hok J.bare fun b hb => by
    rw [List.mem_singleton.mp hb]
    exact ⟨fp3.2.2.2.1, fp3.2.1, fp3.2.2.2.2.1, fp3.2.2.2.2.2⟩
  have alone : ∀ {s' : Shared} {σ' : L2.St} {G : Hp}, L2.Inv (X.blk s3 HB scope ce [p]) [] σ' G s' → G p = none → FpOk (X.blk s3 HB scope ce [p]) [] G p := fun {s' σ' G} J hp =>
    have m : p ∈ (X.blk s3 HB scope ce [p]).ex := List.mem_singleton.mpr rfl
    ⟨hp, (J.ok.exf p m).1, J.ok.exfs p m, .inl m, fun x c e => (J.ok.exf p m).2 x c e, fun r hr => nomatch (show r ∈ ([] : List (Addr × Obj)) from hr)⟩
  have loop : codeAny (model X.prog X.w) X.A (.compLoop (.ListComp elt [⟨tg, iter, [], 0⟩] scope pos) 0 (.ref p) (.ref D) ce) (compPost (model X.prog X.w) X.A X.xe use R (.ref D) C) s4 := by
    refine compLoop_any (LcI X s3 HB scope ce (wipe σ (own.map (·.2))) p a W) ?_ m0 ⟨0, HB, I4, it4, fp3.1, w0⟩
    rintro n s5 ⟨i, G, J, itr, gp, w5⟩
    have lone := alone J gp
    rcases turn i n G w5 with ⟨⟨ys, hys, le⟩, qq⟩ | ⟨⟨ys, y, hys, hy⟩, Nx, hN, step⟩
    · obtain ⟨vs, rvs, isv, _⟩ := J.list hys
      obtain ⟨zz, hzz⟩ := hot.at (back J)
      have ln := rvs.length
      refine list_done hzz itr isv.isList (by simp; omega) fun h2 kk => ?_
      have J6 := J.turned (t' := s5.toks) kk lone.1 lone.2.1 lone.2.2.2.1 lone.2.2.2.2.1 lone.2.2.2.2.2
      obtain ⟨mm, ns, _⟩ := J6.loc
      have ns : h2.Ns ce.locals mm := ns
      have nC : G ce.locals = none := J6.free
      rw [lC] at ns nC
      exact out D C _ mm G (back J6) qq ns (I3.fpOk (Nat.le_of_eq eC) nC)
    · obtain ⟨vs, rvs, isv, _⟩ := J.list hys
      obtain ⟨u, hu, ru⟩ := rvs.get hy
      refine wpAny_pyNext_list_item itr isv.isList (x := u) (by simpa using hu) fun h2 it5 sb => ?_
      have J6 := J.turned (t' := s5.toks) (h' := h2) (fun b o nb e => (sb.2 b nb).trans e) lone.1 lone.2.1 lone.2.2.2.1 lone.2.2.2.2.1 lone.2.2.2.2.2
      obtain ⟨oi, ei, ci, di⟩ := id it5
      refine go_of (s := { s5 with heap := h2 }) ei ci di (by decide) ?_
      have J7 : L2.Inv (X.blk s3 HB scope ce [p]) [z, (p, oi)] (wipe σ (own.map (·.2))) G { s5 with heap := h2 } := J6.pins_of fun r hr => by
        rcases List.mem_cons.mp hr with e | hr
        · have Z := (back J6).pin z (List.mem_append_left _ mz)
          have lz : z.1 < C := by
            rw [← eC]
            exact Heap.lt_size (I3.pin z (List.mem_append_left _ mz)).1
          rw [e]
          exact ⟨Z.1, Z.2.1, by show z.1 ≠ ce.locals; rw [lC]; exact Nat.ne_of_lt lz, fun m => (List.mem_cons.mp (I3.stkSub z.1 m)).elim Z.2.2.1 Z.2.2.2.1, Z.2.2.2.2⟩
        · rw [List.mem_singleton.mp hr]
          exact ⟨ei, gp, lone.2.1, lone.2.2.1, fun v q => by rw [di] at q; cases q⟩
      refine thnF (pg.run _ _ _ G y u _ (to_blkH J7) ru (step y G ⟨rfl, fun zs hz => by rw [J.list_inj hz hys]; exact hy⟩)) fun _ s8 ⟨σ8, H8, I8, w8, q8⟩ => ?_
      refine wpAny_tests_nil ?_
      rw [if_pos rfl]
      have q8 : te σ8 H8 _ := q8
      refine thnF (pe.run _ s8 σ8 H8 _ I8 q8) fun zv s9 ⟨yv, H9, I9, r9, acc, hacc, len, nx⟩ => ?_
      refine app_ok (X := blkH X z s3 HB scope ce [p]) I9 hacc len r9 fun s10 I10 => ?_
      obtain ⟨m2, lt, w2⟩ := hN _ nx
      have pin := I10.pin (p, oi) (List.mem_append_right _ (List.mem_singleton.mpr rfl))
      refine ⟨m2, lt, i + 1, _, ((of_blkH I10).pins_of (pins' := []) fun r hr => nomatch hr).weak (by rw [← w8, wipe_length]) (fun j v e => ?_), ⟨oi, pin.1, ci, di⟩, pin.2.1, w2⟩
      rw [← w8] at e
      exact (wipe_some e).1
  exact codeAny_compStart_list loop (wpAny_pyIter_listiter it4 loop)
/-- x = [e for t in l], a local on one line -/
theorem ps_setLcH {k : Nat} {x : Str} {px spos : Pos} (hot : L2H.HotC X) (nd : X.N.Nodup) (hx : X.N[k]? = some x) (lx : X.env.scope.names.lookup x = some .local)
    (sw : swapsWith (.ListComp elt [⟨tg, iter, [], 0⟩] scope pos) (some (.Name x px)) spos.line X.env = pure true) (pl : PE X iter tl) (ok : BlkOk X.N X.env.scope scope own)
    (pgs : ∀ (z : Addr × Obj) (hz : L2H.Hot1 X.A z) (s : Shared) (H : Hp) (C : Addr) (cl : List (Str × Addr)) (fp : List Addr), PG (blkH X z s H scope (compEnvC scope cl C X.env) fp) tg g)
    (pes : ∀ (z : Addr × Obj) (hz : L2H.Hot1 X.A z) (s : Shared) (H : Hp) (C : Addr) (cl : List (Str × Addr)) (fp : List Addr), PE (blkH X z s H scope (compEnvC scope cl C X.env) fp) elt te) (fold : ∀ x, foldedSetIterable iter X.env x = pure x := by intro _; rfl) :
    PS X (.Assign [.Name x px] (.ListComp elt [⟨tg, iter, [], 0⟩] scope pos) spos) (tAsg (tLc (iList X.K tl) g tYes te (own.map (·.2))) (gName k)) := by
  refine ⟨fun pins s σ H D J0 h => ?_⟩
  rw [exec_Assign_Name_used _ _ _ _ sw]
  refine wpAny_bind (wpAny_standAt (wpAny_bind (wpAny_bind (thn (lcH_core (Q := fun x H1 => gName k x σ H1 D.nx) (R := fun _ s2 => SP X pins D .next s2) (use := some (assign (.Name x px) X.env)) hot nd J0 pl ok pgs pes fold h fun L C s2 m G J q ns f => ?_) fun _ s2 q2 => wpAny_pure (wpAny_pure q2)))))
  show wpAny _ _ (assign (.Name x px) X.env (.ref L)) _ _ _
  obtain ⟨f0, f1, _, f3, f4, f5⟩ := f
  refine wpAny_assign_Name (store_ok2 (v := V.ref L) J nd hx (.inl lx) rfl (fun s3 J3 ⟨b, sb, hb⟩ => ?_) (.inr lx))
  refine ⟨m, ns.sameBut sb (hb.elim (fun z => by rw [z]; exact f1) fun z e => f4 x b z e.symm), fun h4 sb4 => ?_⟩
  exact ⟨_, G, J3.turned (t' := s3.toks) (fun c o nc e => (sb4.2 c nc).trans e) f0 f1 f3 f4 f5, q⟩
end
end YF

namespace K13
open PySem L2 YF NdefX
/-! ### an outcome is made -/
def fldO (w : Str) (a b f l : Addr) (rv : V) : List (Str × V) := [("kind", .str w), ("reads", .ref a), ("writes", .ref b), ("finals", .ref f), ("later", .ref l), ("reason", rv)]
section
variable {P : Program} {w : World} {K : PySem.W.Frag} {mg : Str → Option Value} {base : Heap} {A : Adr}
def spInitO (K : PySem.W.Frag) (C : Addr) : Sp := fun vs H Q _ => ∃ (x dx r0 w0 f0 l0 : Addr) (kd : Str) (rv : V) (B : Hp) (rds wrs : Kv) (fin ltr : List V), vs = [.ref x, .str kd, .ref r0, .ref w0, .ref f0, .ref l0, rv] ∧ H x = some (.ins C dx []) ∧ Same B H ∧ B x = none ∧ B r0 = some (.dK rds) ∧ B w0 = some (.dK wrs) ∧ SqL K B f0 fin ∧ SqL K B l0 ltr ∧
  ∀ a b f l H', H a = none → H b = none → H f = none → H l = none → (∀ c o, c ≠ x → H c = some o → H' c = some o) → H' x = some (.ins C dx (fldO kd a b f l rv)) → H' a = some (.dK rds) → H' b = some (.dK wrs) → H' f = some (.lst fin) → H' l = some (.lst ltr) → Q .non H'
theorem ok_Outcome___init__ (T : Txt K mg A) : FnOk P w K mg base CX0 1 A.a_Outcome___init__ A.d_Outcome___init__ ["self", "kind", "reads", "writes", "finals", "later", "reason"] (spInitO K A.a_Outcome) := by
  refine T.K_Outcome___init__.ok sc_Outcome___init__ (fun vs H Q E ⟨_, _, _, _, _, _, _, _, _, _, _, _, _, e, _⟩ => by rw [e]; rfl) (fun cdv A' outer s0 H vs Q E hr h => ?_)
  obtain ⟨x, dx, r0, w0, f0, l0, kd, rv, B, rds, wrs, fin, ltr, rfl, hx, sb, bx, hr0, hw0, hf0, hl0, k⟩ := h
  refine ⟨_, pss_cons (ps_fld (pv 0) (pv 1) rfl)
  (pss_cons (ps_fld (pv 0) (pe_callTy call_dictD (by rfl) T.n_dict (by decide +kernel) (pa_cons (pv 2) pa_nil)) rfl)
  (pss_cons (ps_fld (pv 0) (pe_callTy call_dictD (by rfl) T.n_dict (by decide +kernel) (pa_cons (pv 3) pa_nil)) rfl)
  (pss_cons (ps_fld (pv 0) (pe_callTy call_list_of (by rfl) T.n_list (by decide +kernel) (pa_cons (pv 4) pa_nil)) rfl)
  (pss_cons (ps_fld (pv 0) (pe_callTy call_list_of (by rfl) T.n_list (by decide +kernel) (pa_cons (pv 5) pa_nil)) rfl)
  (pss_one (ps_fld (pv 0) (pv 6) rfl)))))), ?_⟩
  refine st_fld (te_var rfl) (te_var rfl) hx T.cl_Outcome T.no_Outcome_kind (by show 0 < 1000; decide) ?_
  have s1 : ∀ b o, b ≠ x → H b = some o → (upd H x (.ins A.a_Outcome dx (putF "kind" (.str kd) []))) b = some o := fun b o n e => by
    rw [upd_ne n]
    exact e
  have d1 : ∀ {b : Addr}, (upd H x (.ins A.a_Outcome dx (putF "kind" (.str kd) []))) b = none → H b = none := fun {b} e => by
    by_cases n : b = x
    · rw [n, upd_same] at e
      cases e
    · rw [upd_ne n] at e
      exact e
  have e1 : (upd H x (.ins A.a_Outcome dx (putF "kind" (.str kd) []))) x = some (.ins A.a_Outcome dx [("kind", .str kd)]) := upd_same
  generalize upd H x (HO.ins A.a_Outcome dx (putF "kind" (.str kd) [])) = H1 at s1 d1 e1 ⊢
  have nB : ∀ {b : Addr} {o : HO}, B b = some o → b ≠ x := fun e z => by
    rw [z, bx] at e
    cases e
  have sB1 : Same B H1 := fun b o e => s1 b o (nB e) (sb _ _ e)
  refine sq_go (new_fld (o := .dK rds) rfl e1 T.cl_Outcome T.no_Outcome_reads (by show 1 < 1000; decide) (fun Q q => ⟨_, rfl, r0, rds, rfl, .inl (sB1 _ _ hr0), q⟩) fun a H2 ha na s2 u2 e2 d2 => ?_)
  dsimp only
  have sB2 : Same B H2 := fun b o e => s2 b o (nB e) (sB1 _ _ e)
  refine sq_go (new_fld (o := .dK wrs) rfl e2 T.cl_Outcome T.no_Outcome_writes (by show 2 < 1000; decide) (fun Q q => ⟨_, rfl, w0, wrs, rfl, .inl (sB2 _ _ hw0), q⟩) fun b H3 hb nb s3 u3 e3 d3 => ?_)
  dsimp only
  have sB3 : Same B H3 := fun b o e => s3 b o (nB e) (sB2 _ _ e)
  refine sq_go (new_fld (o := .lst fin) rfl e3 T.cl_Outcome T.no_Outcome_finals (by show 3 < 1000; decide) (fun Q q => ⟨_, rfl, f0, fin, rfl, .inl (Same.sqL sB3 hf0), q⟩) fun f H4 hf nf s4 u4 e4 d4 => ?_)
  dsimp only
  have sB4 : Same B H4 := fun b o e => s4 b o (nB e) (sB3 _ _ e)
  refine sq_go (new_fld (o := .lst ltr) rfl e4 T.cl_Outcome T.no_Outcome_later (by show 4 < 1000; decide) (fun Q q => ⟨_, rfl, l0, ltr, rfl, .inl (Same.sqL sB4 hl0), q⟩) fun l H5 hl nl s5 u5 e5 d5 => ?_)
  dsimp only
  refine (te_var rfl : Te _ _ _ rv) _ ((te_var rfl : Te _ _ _ (.ref x)) _ ⟨x, _, _, _, rfl, e5, T.cl_Outcome, T.no_Outcome_reason, by show 5 < 1000; decide, ?_⟩)
  have nz : ∀ {y : Addr} {o : HO}, y ≠ x → H5 y = some o → (upd H5 x (.ins A.a_Outcome dx (putF "reason" rv (putF "later" (.ref l) (putF "finals" (.ref f) (putF "writes" (.ref b) (putF "reads" (.ref a) [("kind", .str kd)]))))))) y = some o := fun n e => by
    rw [upd_ne n]
    exact e
  exact k a b f l _ (d1 ha) (d1 (d2 _ hb)) (d1 (d2 _ (d3 _ hf))) (d1 (d2 _ (d3 _ (d4 _ hl)))) (fun c o n e => nz n (s5 _ _ n (s4 _ _ n (s3 _ _ n (s2 _ _ n (s1 _ _ n e)))))) upd_same (nz na (s5 _ _ na (s4 _ _ na (s3 _ _ na u2)))) (nz nb (s5 _ _ nb (s4 _ _ nb u3))) (nz nf (s5 _ _ nf u4)) (nz nl u5)
theorem ok_Outcome___init__H (T : Txt K mg A) : L2H.FnH P w K mg base CX0 1 A.a_Outcome___init__ A.d_Outcome___init__ ["self", "kind", "reads", "writes", "finals", "later", "reason"] (spInitO K A.a_Outcome) := by
  refine okHD T.K_Outcome___init__ sc_Outcome___init__ (fun vs H Q E ⟨_, _, _, _, _, _, _, _, _, _, _, _, _, e, _⟩ => by rw [e]; rfl) (fun cdv A' outer s0 H vs Q E pp hot hr h => ?_)
  obtain ⟨x, dx, r0, w0, f0, l0, kd, rv, B, rds, wrs, fin, ltr, rfl, hx, sb, bx, hr0, hw0, hf0, hl0, k⟩ := h
  refine ⟨_, pss_cons (ps_fld (pv 0) (pv 1) rfl)
  (pss_cons (ps_fld (pv 0) (pe_callTy call_dictD (by rfl) T.n_dict (by decide +kernel) (pa_cons (pv 2) pa_nil)) rfl)
  (pss_cons (ps_fld (pv 0) (pe_callTy call_dictD (by rfl) T.n_dict (by decide +kernel) (pa_cons (pv 3) pa_nil)) rfl)
  (pss_cons (ps_fld (pv 0) (pe_callTy call_list_of (by rfl) T.n_list (by decide +kernel) (pa_cons (pv 4) pa_nil)) rfl)
  (pss_cons (ps_fld (pv 0) (pe_callTy call_list_of (by rfl) T.n_list (by decide +kernel) (pa_cons (pv 5) pa_nil)) rfl)
  (pss_one (ps_fld (pv 0) (pv 6) rfl)))))), ?_⟩
  refine st_fld (te_var rfl) (te_var rfl) hx T.cl_Outcome T.no_Outcome_kind (by show 0 < 1000; decide) ?_
  have s1 : ∀ b o, b ≠ x → H b = some o → (upd H x (.ins A.a_Outcome dx (putF "kind" (.str kd) []))) b = some o := fun b o n e => by
    rw [upd_ne n]
    exact e
  have d1 : ∀ {b : Addr}, (upd H x (.ins A.a_Outcome dx (putF "kind" (.str kd) []))) b = none → H b = none := fun {b} e => by
    by_cases n : b = x
    · rw [n, upd_same] at e
      cases e
    · rw [upd_ne n] at e
      exact e
  have e1 : (upd H x (.ins A.a_Outcome dx (putF "kind" (.str kd) []))) x = some (.ins A.a_Outcome dx [("kind", .str kd)]) := upd_same
  generalize upd H x (HO.ins A.a_Outcome dx (putF "kind" (.str kd) [])) = H1 at s1 d1 e1 ⊢
  have nB : ∀ {b : Addr} {o : HO}, B b = some o → b ≠ x := fun e z => by
    rw [z, bx] at e
    cases e
  have sB1 : Same B H1 := fun b o e => s1 b o (nB e) (sb _ _ e)
  refine sq_go (new_fld (o := .dK rds) rfl e1 T.cl_Outcome T.no_Outcome_reads (by show 1 < 1000; decide) (fun Q q => ⟨_, rfl, r0, rds, rfl, .inl (sB1 _ _ hr0), q⟩) fun a H2 ha na s2 u2 e2 d2 => ?_)
  dsimp only
  have sB2 : Same B H2 := fun b o e => s2 b o (nB e) (sB1 _ _ e)
  refine sq_go (new_fld (o := .dK wrs) rfl e2 T.cl_Outcome T.no_Outcome_writes (by show 2 < 1000; decide) (fun Q q => ⟨_, rfl, w0, wrs, rfl, .inl (sB2 _ _ hw0), q⟩) fun b H3 hb nb s3 u3 e3 d3 => ?_)
  dsimp only
  have sB3 : Same B H3 := fun b o e => s3 b o (nB e) (sB2 _ _ e)
  refine sq_go (new_fld (o := .lst fin) rfl e3 T.cl_Outcome T.no_Outcome_finals (by show 3 < 1000; decide) (fun Q q => ⟨_, rfl, f0, fin, rfl, .inl (Same.sqL sB3 hf0), q⟩) fun f H4 hf nf s4 u4 e4 d4 => ?_)
  dsimp only
  have sB4 : Same B H4 := fun b o e => s4 b o (nB e) (sB3 _ _ e)
  refine sq_go (new_fld (o := .lst ltr) rfl e4 T.cl_Outcome T.no_Outcome_later (by show 4 < 1000; decide) (fun Q q => ⟨_, rfl, l0, ltr, rfl, .inl (Same.sqL sB4 hl0), q⟩) fun l H5 hl nl s5 u5 e5 d5 => ?_)
  dsimp only
  refine (te_var rfl : Te _ _ _ rv) _ ((te_var rfl : Te _ _ _ (.ref x)) _ ⟨x, _, _, _, rfl, e5, T.cl_Outcome, T.no_Outcome_reason, by show 5 < 1000; decide, ?_⟩)
  have nz : ∀ {y : Addr} {o : HO}, y ≠ x → H5 y = some o → (upd H5 x (.ins A.a_Outcome dx (putF "reason" rv (putF "later" (.ref l) (putF "finals" (.ref f) (putF "writes" (.ref b) (putF "reads" (.ref a) [("kind", .str kd)]))))))) y = some o := fun n e => by
    rw [upd_ne n]
    exact e
  exact k a b f l _ (d1 ha) (d1 (d2 _ hb)) (d1 (d2 _ (d3 _ hf))) (d1 (d2 _ (d3 _ (d4 _ hl)))) (fun c o n e => nz n (s5 _ _ n (s4 _ _ n (s3 _ _ n (s2 _ _ n (s1 _ _ n e)))))) upd_same (nz na (s5 _ _ na (s4 _ _ na (s3 _ _ na u2)))) (nz nb (s5 _ _ nb (s4 _ _ nb u3))) (nz nf (s5 _ _ nf u4)) (nz nl u5)
abbrev psO : List Str := ["self", "kind", "reads", "writes", "finals", "later", "reason"]
theorem kb4 {fo : Addr} {fd : FuncData} (F : FunD K "__init__" "Outcome.__init__" (defArgs s_Outcome___init__) (defBody s_Outcome___init__) (defScope s_Outcome___init__) [] [("reason", .non)] fo fd) : ∃ mv : List Value, KBn K fd psO 2 ["reads", "writes", "finals", "later"] (fun us ws => us ++ ws ++ mv) (fun vs zs => vs ++ zs ++ [.non]) := by
  refine F.kbinds0 2 ["reads", "writes", "finals", "later"] [("reason", .non)] (fun us mv ws => us ++ ws ++ mv) (by intro z; cases z) (fun q hq => hq) (fun h1 h2 h3 => (h1.append h3).append h2) ?_
  intro D doc pm an cdv ct us mv ws l1 l2 l3
  match us, mv, ws, l1, l2, l3 with
  | [a, b], [m], [c, d, e, f], _, _, _ => exact ⟨_, _, _, _, _, _, rfl, rfl, rfl⟩
theorem kb5 {fo : Addr} {fd : FuncData} (F : FunD K "__init__" "Outcome.__init__" (defArgs s_Outcome___init__) (defBody s_Outcome___init__) (defScope s_Outcome___init__) [] [("reason", .non)] fo fd) : ∃ mv : List Value, KBn K fd psO 2 ["reads", "writes", "finals", "later", "reason"] (fun us ws => us ++ ws) (fun vs zs => vs ++ zs) := by
  refine F.kbinds0 2 ["reads", "writes", "finals", "later", "reason"] [] (fun us mv ws => us ++ ws) (by intro z; cases z) (fun q hq => by cases hq) (fun h1 h2 h3 => h1.append h3) ?_
  intro D doc pm an cdv ct us mv ws l1 l2 l3
  match us, mv, ws, l1, l2, l3 with
  | [a, b], [], [c, d, e, f, g], _, _, _ => exact rfl
end
end K13

/-! what stays but for what stands at some addresses; dicts from ints to ints -/
namespace YG
open PySem PySem.Spec PyProof.Rows L2
open YF hiding St
abbrev St := L2.St
/-- nothing but what stands at addresses of X is otherwise -/
def Fr (X : List Addr) (H H' : Hp) : Prop := ∀ b o, b ∉ X → H b = some o → H' b = some o
/-- the part that stays -/
def kp (X : List Addr) (H : Hp) : Hp := fun b => if b ∈ X then none else H b
section
variable {X Y : List Addr} {H H1 H2 H' : Hp} {a b : Addr} {o u : HO}
theorem Fr.refl : Fr X H H := fun _ _ _ h => h
theorem Fr.trans (s : Fr X H H1) (t : Fr X H1 H2) : Fr X H H2 := fun b o n h => t b o n (s b o n h)
theorem Fr.of (s : Same H H') : Fr X H H' := fun b o _ h => s b o h
theorem Fr.more (s : Fr X H H') (h : ∀ a ∈ X, a ∈ Y) : Fr Y H H' := fun b o n e => s b o (fun m => n (h b m)) e
theorem Fr.new (s : Fr X H H') (h : H' a = none) : Fr X H (upd H' a o) := fun b u n e => by
  have q := s b u n e
  rw [upd_ne (ne_of_none q h)]
  exact q
theorem Fr.wr (s : Fr X H H') (h : a ∈ X) : Fr X H (upd H' a o) := fun b u n e => by
  rw [upd_ne (fun z => n (by rw [z]; exact h))]
  exact s b u n e
theorem Fr.less (s : Fr (a :: X) H H') (h : H a = none) : Fr X H H' := fun b u n e => s b u (fun m => by
  rcases List.mem_cons.mp m with m | m
  · rw [m, h] at e
    cases e
  · exact n m) e
theorem Fr.same (s : Fr [] H H') : Same H H' := fun b u e => s b u (by simp) e
theorem kp_in (h : a ∈ X) : kp X H a = none := if_pos h
theorem kp_out (h : a ∉ X) : kp X H a = H a := if_neg h
theorem kp_at (e : H a = some o) (h : a ∉ X) : kp X H a = some o := by rw [kp_out h, e]
theorem kp_some (e : kp X H a = some o) : a ∉ X ∧ H a = some o := by
  by_cases h : a ∈ X
  · rw [kp_in h] at e
    cases e
  · rw [kp_out h] at e
    exact ⟨h, e⟩
theorem kp_none (e : H a = none) : kp X H a = none := by
  by_cases h : a ∈ X
  · exact kp_in h
  · rw [kp_out h, e]
theorem kp_sub : Same (kp X H) H := fun _ _ e => (kp_some e).2
theorem Fr.kp (s : Fr X H H') : Same (kp X H) (kp X H') := fun b o e => kp_at (s b o (kp_some e).1 (kp_some e).2) (kp_some e).1
theorem Fr.base (s : Fr X H H') : Same (YG.kp X H) H' := fun b o e => s b o (kp_some e).1 (kp_some e).2
theorem kp_more (h : ∀ a ∈ X, a ∈ Y) : Same (YG.kp Y H) (YG.kp X H) := fun b o e => kp_at (kp_some e).2 fun m => (kp_some e).1 (h b m)
theorem Same.kpX {B : Hp} (s : Same B H) (h : ∀ a ∈ X, B a = none) : Same B (YG.kp X H) := fun b o e => kp_at (s b o e) fun m => by
  rw [h b m] at e
  cases e
theorem kp_nil : kp [] H = H := funext fun b => kp_out (by simp)
end
/-! a list of ints -/
def Row (H : Hp) (p : Addr) : Prop := ∃ ns : List Int, H p = some (.lst (ns.map V.int))
section
variable {H : Hp} {p a : Addr} {o : HO}
theorem Row.ne (r : Row H p) (h : H a = none) : a ≠ p := by
  obtain ⟨ns, e⟩ := r
  exact (ne_of_none e h).symm
theorem Row.upd (r : Row H p) (h : a ≠ p) : Row (upd H a o) p := by
  obtain ⟨ns, e⟩ := r
  exact ⟨ns, by rw [upd_ne h.symm]; exact e⟩
theorem Row.new (r : Row H p) (h : H a = none) : Row (L2.upd H a o) p := r.upd (r.ne h)
theorem Row.same {H' : Hp} (r : Row H p) (s : Same H H') : Row H' p := by
  obtain ⟨ns, e⟩ := r
  exact ⟨ns, s _ _ e⟩
end
/-! two rows of one length -/
theorem paired_len {α β : Type} {F : α → β → Prop} {l : List α} {vs : List β} (h : Paired F l vs) : vs.length = l.length := by
  induction h with
  | nil => rfl
  | cons _ _ ih => simp [ih]
theorem paired_snoc {α β : Type} {F : α → β → Prop} : ∀ {l : List α} {vs : List β} {x : α} {v : β}, Paired F l vs → F x v → Paired F (l ++ [x]) (vs ++ [v])
  | [], [], _, _, .nil, h => .cons h .nil
  | _ :: _, _ :: _, _, _, .cons h t, k => .cons h (paired_snoc t k)
theorem paired_at {α β : Type} {F : α → β → Prop} : ∀ {l : List α} {vs : List β} {i : Nat} {x : α}, Paired F l vs → l[i]? = some x → ∃ v, vs[i]? = some v ∧ F x v
  | a :: _, b :: _, 0, x, .cons h _, e => by
    have e2 : a = x := by simpa using e
    exact ⟨b, rfl, by rw [← e2]; exact h⟩
  | _ :: l, _ :: vs, i + 1, x, .cons _ t, e => by
    obtain ⟨v, h1, h2⟩ := paired_at (i := i) (x := x) t (by simpa using e)
    exact ⟨v, by simpa using h1, h2⟩
theorem paired_at2 {α β : Type} {F : α → β → Prop} : ∀ {l : List α} {vs : List β} {i : Nat} {v : β}, Paired F l vs → vs[i]? = some v → ∃ x, l[i]? = some x ∧ F x v
  | [], [], i, v, .nil, e => by simp at e
  | a :: _, b :: _, 0, v, .cons h _, e => by
    have e2 : b = v := by simpa using e
    exact ⟨a, rfl, by rw [← e2]; exact h⟩
  | _ :: l, _ :: vs, i + 1, v, .cons _ t, e => by
    obtain ⟨x, h1, h2⟩ := paired_at2 (i := i) (v := v) t (by simpa using e)
    exact ⟨x, by simpa using h1, h2⟩
/-- the same rows in another order -/
theorem paired_perm {α β : Type} {F : α → β → Prop} {l l' : List α} (p : l'.Perm l) : ∀ {vs : List β}, Paired F l vs → ∃ vs', vs'.Perm vs ∧ Paired F l' vs' := by
  induction p with
  | nil =>
    intro vs h
    exact ⟨vs, .refl _, h⟩
  | cons x p ih =>
    intro vs h
    cases h with
    | cons h t =>
      obtain ⟨ws, p1, h1⟩ := ih t
      exact ⟨_, .cons _ p1, .cons h h1⟩
  | swap x y l =>
    intro vs h
    cases h with
    | cons h t =>
      cases t with
      | cons h2 t => exact ⟨_, .swap _ _ _, .cons h2 (.cons h t)⟩
  | trans p q ih1 ih2 =>
    intro vs h
    obtain ⟨ws, p1, h1⟩ := ih2 h
    obtain ⟨ws2, p2, h2⟩ := ih1 h1
    exact ⟨ws2, p2.trans p1, h2⟩
/-! dicts from ints to ints -/
abbrev Mp := List (Int × Int)
def kvI (l : Mp) : List (Key × V) := l.map fun q => (.inl q.1, .int q.2)
def getI (l : Mp) (i : Int) : Option Int := (l.find? fun q => decide (q.1 = i)).map (·.2)
def putI (l : Mp) (i x : Int) : Mp := if (l.any fun q => decide (q.1 = i)) = true then l.map (fun q => if q.1 = i then (q.1, x) else q) else l ++ [(i, x)]
theorem keyI {i j : Int} : ((Sum.inl i : Key) = .inl j) ↔ i = j := ⟨fun h => Sum.inl.inj h, fun h => by rw [h]⟩
theorem valV_kvI (i : Int) : ∀ l : Mp, valV (kvI l) (.inl i : Key) = (getI l i).map V.int
  | [] => rfl
  | q :: r => by
    have ih := valV_kvI i r
    by_cases h : q.1 = i
    · rw [show kvI (q :: r) = (.inl q.1, .int q.2) :: kvI r from rfl, valV_pos (keyI.mpr h)]
      simp [getI, h]
    · rw [show kvI (q :: r) = (.inl q.1, .int q.2) :: kvI r from rfl, valV_neg (fun z => h (keyI.mp z)), ih]
      simp [getI, h]
theorem putK_kvI {l : Mp} {i x : Int} : putK (kvI l) (.inl i : Key) (.int x) = kvI (putI l i x) := by
  have e : ((kvI l).any fun kv => decide (kv.1 = (.inl i : Key))) = l.any fun q => decide (q.1 = i) := by
    unfold kvI
    rw [List.any_map]
    refine congrArg (fun f => List.any l f) (funext fun q => ?_)
    simp [keyI]
  unfold putK putI
  rw [e]
  by_cases h : (l.any fun q => decide (q.1 = i)) = true
  · rw [if_pos h, if_pos h]
    unfold kvI
    rw [List.map_map, List.map_map]
    refine List.map_congr_left fun q _ => ?_
    by_cases h2 : q.1 = i
    · simp [h2]
    · simp [h2]
  · rw [if_neg h, if_neg h]
    unfold kvI
    rw [List.map_append]
    rfl
theorem getI_mem {l : Mp} {i x : Int} (h : getI l i = some x) : (i, x) ∈ l := by
  unfold getI at h
  cases e : l.find? fun q => decide (q.1 = i) with
  | none =>
    rw [e] at h
    cases h
  | some q =>
    rw [e] at h
    have h1 := List.find?_some e
    have h2 := List.mem_of_find?_eq_some e
    have h3 : q.2 = x := by simpa using h
    have h4 : q.1 = i := by simpa using h1
    rw [← h3, ← h4]
    exact h2
theorem getI_of {l : Mp} (n : (l.map (·.1)).Nodup) {i x : Int} (h : (i, x) ∈ l) : getI l i = some x := by
  induction l with
  | nil => cases h
  | cons q r ih =>
    rw [List.map_cons, List.nodup_cons] at n
    unfold getI
    rcases List.mem_cons.mp h with h | h
    · rw [← h]
      simp
    · have h2 : ¬ q.1 = i := fun z => n.1 (List.mem_map.mpr ⟨_, h, z.symm⟩)
      have h3 := ih n.2 h
      unfold getI at h3
      rw [List.find?_cons_of_neg (by simpa using h2)]
      exact h3
theorem putI_mem {l : Mp} {i x : Int} {q : Int × Int} (h : q ∈ putI l i x) : q ∈ l ∨ q = (i, x) := by
  unfold putI at h
  split at h
  · obtain ⟨r, h1, h2⟩ := List.mem_map.mp h
    by_cases z : r.1 = i
    · rw [if_pos z] at h2
      exact .inr (by rw [← h2, z])
    · rw [if_neg z] at h2
      exact .inl (by rw [← h2]; exact h1)
  · rcases List.mem_append.mp h with h | h
    · exact .inl h
    · exact .inr (List.mem_singleton.mp h)
theorem putI_nodup {l : Mp} {i x : Int} (n : (l.map (·.1)).Nodup) : ((putI l i x).map (·.1)).Nodup := by
  unfold putI
  split
  · have e : (l.map fun q => if q.1 = i then (q.1, x) else q).map (·.1) = l.map (·.1) := by
      rw [List.map_map]
      refine List.map_congr_left fun q _ => ?_
      by_cases z : q.1 = i
      · simp [z]
      · simp [z]
    rw [e]
    exact n
  · rename_i h
    rw [List.map_append, List.nodup_append]
    refine ⟨n, by simp, fun a h1 b h2 z => h ?_⟩
    obtain ⟨q, h3, h4⟩ := List.mem_map.mp h1
    have h5 : b = i := by simpa using h2
    exact List.any_eq_true.mpr ⟨q, h3, by simp [h4, z, h5]⟩
theorem putI_len {l : Mp} {i x : Int} : (putI l i x).length ≤ l.length + 1 := by
  unfold putI
  split
  · simp
  · simp
/-- keys from 0 to n, none twice, few -/
structure OkD (n m : Nat) (l : Mp) : Prop where
  key : ∀ q ∈ l, 0 ≤ q.1 ∧ q.1 < n
  nod : (l.map (·.1)).Nodup
  len : l.length ≤ m
theorem OkD.nil {n m : Nat} : OkD n m [] := ⟨fun q h => (by cases h), by simp, Nat.zero_le _⟩
theorem OkD.put {n m : Nat} {l : Mp} {i x : Int} (h : OkD n m l) (h0 : 0 ≤ i) (h1 : i < n) : OkD n (m + 1) (putI l i x) :=
  ⟨fun q hq => by
    rcases putI_mem hq with hq | hq
    · exact h.key q hq
    · rw [hq]
      exact ⟨h0, h1⟩, putI_nodup h.nod, Nat.le_trans putI_len (Nat.succ_le_succ h.len)⟩
theorem OkD.more {n m m' : Nat} {l : Mp} (h : OkD n m l) (k : m ≤ m') : OkD n m' l := ⟨h.key, h.nod, Nat.le_trans h.len k⟩
/-! what is read in a comprehension, by K -/
@[reducible] def rLenS (K : PySem.W.Frag) : List V → Hp → VK → Prop := fun vs H Q => ∃ p ys, vs = [.ref p] ∧ (SqL K H p ys ∨ SqT K H p ys) ∧ Q (.int ys.length) H
/-! terms -/
section
variable {K : PySem.W.Frag} {σ : St} {H : Hp} {ta tb tc te : TE} {p : Addr} {i : Int} {l : Mp}
theorem te_getI {x : Int} (ha : Te ta σ H (.ref p)) (hb : Te tb σ H (.int i)) (h : H p = some (.dK (kvI l))) (e : getI l i = some x) : Te (tDGet ta tb) σ H (.int x) :=
  te_dgetI ha hb h (by rw [valV_kvI, e]; rfl)
theorem te_getF {x : Int} {od : Obj} (ha : Te ta σ H (.ref p)) (hb : Te tb σ H (.int i)) (h : H p = some (.frz od (.dK (kvI l)))) (e : getI l i = some x) : Te (tDGet ta tb) σ H (.int x) := fun Q q =>
  ha _ (hb _ ⟨p, _, rfl, .inl ⟨kvI l, .inl i, .inr ⟨_, h⟩, rfl, by rw [valV_kvI, e]; rfl⟩, q⟩)
theorem st_putI {D : Ends} {x : Int} (h : Te te σ H (.int x)) (hp : Te ta σ H (.ref p)) (hi : Te tb σ H (.int i)) (e : H p = some (.dK (kvI l))) (hl : l.length < sizeLine) (r : D.nx σ (upd H p (.dK (kvI (putI l i x))))) :
    sDPut ta tb te D σ H := st_dputI h hp hi e (by unfold kvI; rw [List.length_map]; exact hl) (by rw [putK_kvI]; exact r)
end
/-! loops and comprehensions over whatever is walked -/
section
variable {K : PySem.W.Frag} {σ : St} {H : Hp} {te : TE} {a d : Addr} {xs : List V} {J : It} {wi : TI} {g : TG} {tb : TS} {D : Ends} {n : Nat} {G : Hp → Prop} {Y : Nat → Hp → V → Hp → Prop} {kvs : List (Key × V)} {o : Obj}
theorem Tt.go {t : TT} {b : Bool} {Q : Bool → Hp → Prop} (h : Tt t σ H b) (k : Q b H) : t σ H Q := h Q k
theorem Te.go {v : V} {Q : VK} (h : Te te σ H v) (k : Q v H) : te σ H Q := h Q k
/-- what is walked, the heap as it was -/
def Ti (wi : TI) (σ : St) (H : Hp) (J : It) : Prop := ∀ R : It → Hp → Prop, R J H → wi σ H R
theorem ti_rng {m : Int} (h : Te te σ H (.int m)) (h0 : 0 ≤ m) (h1 : m ≤ 100000) : Ti (iRng1 (tCons te tNil)) σ H (Itr 0 m.toNat) := fun R q => h _ ⟨m, rfl, by omega, by omega, q⟩
theorem ti_rngN (h : Te te σ H (.int (n : Int))) (h1 : n ≤ 100000) : Ti (iRng1 (tCons te tNil)) σ H (Itr 0 n) := fun R q => h _ ⟨(n : Int), rfl, by omega, by omega, q⟩
theorem ti_list (h : Te te σ H (.ref a)) (hs : SqL K H a xs) : Ti (iList K te) σ H (Itl K a) := fun R q => h _ ⟨a, rfl, ⟨xs, hs⟩, q⟩
theorem ti_enum (h : Te te σ H (.ref a)) (hs : SqL K H a xs) : Ti (iEnum K (tCons te tNil)) σ H (Ite K a) := fun R q => h _ ⟨a, xs, rfl, hs, q⟩
theorem ti_items (h : Te te σ H (.ref d)) (e : H d = some (.frz o (.dK kvs))) : Ti (iItems te) σ H (Iti d o kvs) := fun R q => h _ ⟨d, o, kvs, rfl, e, q⟩
theorem ti_keys (h : Te te σ H (.ref d)) (e : H d = some (.frz o (.dK kvs))) : Ti (iKeys te) σ H (Itk d o kvs) := fun R q => h _ ⟨d, o, rfl, .inl ⟨kvs, e, q⟩⟩
theorem for_go (t : Ti wi σ H J) (w : Walk J n G Y) (Pv : Nat → St → Hp → Prop) (h0 : Pv 0 σ H) (hG : ∀ i σ H, i ≤ n → Pv i σ H → G H)
    (hs : ∀ i x σ H H', i < n → Pv i σ H → Y i H x H' → g x σ H' fun σ2 H2 => tb { D with nx := Pv (i + 1), ct := Pv (i + 1), bk := D.nx } σ2 H2) (hd : ∀ σ H, Pv n σ H → D.nx σ H) : tFor wi g tb D σ H := t _ (for_it w Pv h0 hG hs hd)
theorem lc_go {tt : TT} {vs : List Nat} {Q : VK} (t : Ti wi σ H J) (w : Walk J n G Y) (Pv : Addr → Nat → Hp → Prop) (h0 : ∀ L, H L = none → Pv L 0 (upd H L (.lst []))) (hG : ∀ L i H', i ≤ n → Pv L i H' → G H')
    (hs : ∀ L i x H1 H', H L = none → i < n → Pv L i H1 → Y i H1 x H' → g x (wipe σ vs) H' fun σ2 H2 => wipe σ2 vs = wipe σ vs ∧ tt σ2 H2 fun b H3 =>
      if b = true then te σ2 H3 fun y H4 => ∃ acc, H4 L = some (.lst acc) ∧ acc.length < sizeLine ∧ Pv L (i + 1) (upd H4 L (.lst (acc ++ [y]))) else Pv L (i + 1) H3)
    (hd : ∀ L H', H L = none → Pv L n H' → Q (.ref L) H') : tLc wi g tt te vs σ H Q :=
  t _ fun L hL => lc_it w (Pv L) (h0 L hL) (hG L) (fun i x H1 H' hi p y => hs L i x H1 H' hL hi p y) fun H' p => hd L H' hL p
theorem lock_go {t : TS} (e : H d = some (.dK kvs)) (k : ∀ od, t ⟨fun σ' H' => H' d = some (.frz od (.dK kvs)) ∧ D.nx σ' (upd H' d (.dK kvs)), fun v H' => H' d = some (.frz od (.dK kvs)) ∧ D.rt v (upd H' d (.dK kvs)), fun σ' H' => H' d = some (.frz od (.dK kvs)) ∧ D.bk σ' (upd H' d (.dK kvs)), fun σ' H' => H' d = some (.frz od (.dK kvs)) ∧ D.ct σ' (upd H' d (.dK kvs))⟩ σ (upd H d (.frz od (.dK kvs)))) : tLock t D σ H := ⟨d, _, e, trivial, k⟩
theorem lockE_go {Q : VK} (e : H d = some (.dK kvs)) (k : ∀ od, te σ (upd H d (.frz od (.dK kvs))) fun v H' => H' d = some (.frz od (.dK kvs)) ∧ Q v (upd H' d (.dK kvs))) : tLockE te σ H Q := ⟨d, _, e, trivial, k⟩
end
theorem go_make {σ : St} {H : Hp} {C : Addr} {sp : Sp} {E : XK} {ta : TA} {vs : List V} {Q : VK} (ha : Ta ta σ H vs) (k : ∀ x dx, H x = none → H dx = none → dx ≠ x → sp (.ref x :: vs) (upd (upd H dx (.own x)) x (.ins C dx [])) (fun v H2 => v = .non ∧ Q (.ref x) H2) E) : tMake C sp [] E ta σ H Q :=
  ha _ fun x dx h1 h2 h3 => by
    have q := k x dx h1 h2 h3
    show sp (.ref x :: (vs ++ [])) _ _ _
    rw [List.append_nil]
    exact q
theorem yes_go {σ : St} {H : Hp} {P R : Hp → Prop} (h : P H) : tYes σ H fun b H3 => if b = true then P H3 else R H3 := by
  show (if true = true then P H else R H)
  rw [if_pos rfl]
  exact h
theorem te_sl {σ σ' : St} {H : Hp} {te : TE} {Q : VK} (e : σ = σ') (h : te σ' H Q) : te σ H Q := by
  rw [e]
  exact h
theorem tt_sl {σ σ' : St} {H : Hp} {t : TT} {Q : Bool → Hp → Prop} (e : σ = σ') (h : t σ' H Q) : t σ H Q := by
  rw [e]
  exact h
theorem ts_sl {σ σ' : St} {H : Hp} {t : TS} {E : Ends} (e : σ = σ') (h : t E σ' H) : t E σ H := by
  rw [e]
  exact h
theorem te_chain {σ : St} {H : Hp} {ta tb tc : TE} {i j l : Int} {p q : Int → Int → Bool} (ha : Te ta σ H (.int i)) (hb : Te tb σ H (.int j)) (hc : Te tc σ H (.int l)) : Te (tChain (rI0 fun i j => .bl (p i j)) (rI0 fun i j => .bl (q i j)) ta tb tc) σ H (.bl (p i j && q j l)) := fun Q k =>
  ha _ (hb _ ⟨i, j, rfl, rfl, p i j, rfl, by
    cases h : p i j with
    | true => rw [if_pos rfl]; exact hc _ ⟨j, l, rfl, rfl, by rw [h] at k; exact k⟩
    | false => rw [if_neg (by simp)]; rw [h] at k; exact k⟩)
theorem pair_go {K : PySem.W.Frag} {σ : St} {H : Hp} {T : Addr} {x y : V} {i j : Nat} {P : St → Hp → Prop} (h : H T = some (.tup [x, y])) (k : P ((σ.set i (some x)).set j (some y)) H) : gTup K 2 (gCons (gName i) (gCons (gName j) gNil)) (.ref T) σ H P :=
  ⟨T, [x, y], rfl, SqT.of h, rfl, x, [y], rfl, y, [], rfl, rfl, k⟩
theorem atI_int {xs : List V} {i : Int} {v : V} (h0 : 0 ≤ i) (e : xs[i.toNat]? = some v) : atI xs i = some v := by
  obtain ⟨n, rfl⟩ := Int.eq_ofNat_of_zero_le h0
  exact atI_nat e
theorem Fr.wrNew {X : List Addr} {H H' : Hp} {a : Addr} {o : HO} (s : Fr X H H') (h : H a = none) : Fr X H (upd H' a o) := fun b u n e => by
  rw [upd_ne (ne_of_none e h)]
  exact s b u n e
theorem Fr.back {H H' : Hp} {d : Addr} {u : HO} (s : Fr [d] H H') (e : H d = some u) : Same H (upd H' d u) := fun b o q => by
  by_cases z : b = d
  · subst z
    rw [e] at q
    cases q
    exact upd_same
  · rw [upd_ne z]
    exact s b o (by simpa using z) q
theorem upd_none {H : Hp} {d L : Addr} {o : HO} (h : upd H d o L = none) : L ≠ d ∧ H L = none := by
  have n : L ≠ d := fun z => by rw [z, upd_same] at h; cases h
  rw [upd_ne n] at h
  exact ⟨n, h⟩
theorem name_go {σ σ' : St} {H : Hp} {i : Nat} {x : V} {P : St → Hp → Prop} (e : σ.set i (some x) = σ') (h : P σ' H) : gName i x σ H P := by
  subst e
  exact h
theorem isD_of {H : Hp} {p : Addr} {kvs : List (Key × V)} (h : H p = some (.dK kvs)) : IsD H p := by
  first | exact .inl ⟨_, .inl h⟩ | exact ⟨_, .inl h⟩ | exact .inl ⟨_, h⟩ | exact ⟨_, h⟩
theorem te_getD {σ : St} {H : Hp} {ta tb tc : TE} {p : Addr} {i x : Int} {l : Mp} (ha : Te ta σ H (.ref p)) (hb : Te tb σ H (.int i)) (hc : Te tc σ H (.int x)) (h : H p = some (.dK (kvI l))) : Te (tDGet2 ta tb tc) σ H (.int ((getI l i).getD x)) := by
  have t := te_dget2I ha hb hc h (isD_of h)
  rw [valV_kvI] at t
  cases e : getI l i with
  | none =>
    rw [e] at t
    exact t
  | some y =>
    rw [e] at t
    exact t
theorem st_lst1 {σ : St} {H : Hp} {te to ta : TE} {D : Ends} {p : Addr} {xs : List V} {v : V} {k : Int} {j : Nat} (h : Te te σ H v) (hp : Te to σ H (.ref p)) (hi : Te ta σ H (.int k)) (e : H p = some (.lst xs)) (hk : ixN xs.length k = some j) (r : D.nx σ (upd H p (.lst (xs.set j v)))) :
    tAsg te (gSub to ta rSetL) D σ H := h _ (hp _ (hi _ ⟨p, xs, k, j, rfl, rfl, e, hk, r⟩))
theorem ixN_nat {n : Nat} {k : Int} (h0 : 0 ≤ k) (h1 : k < n) : ixN n k = some k.toNat := by
  unfold ixN
  first | (rw [if_pos (by omega), if_pos (by omega)]) | (simp only []; split <;> first | rfl | omega | (split <;> first | rfl | omega)) | (split <;> first | rfl | omega)
theorem cut_to {xs : List V} (n : Nat) : cutV xs none (some (n : Int)) = xs.take n := by
  unfold cutV
  have e1 : HT.sIx xs.length xs.length (some (n : Int)) = min n xs.length := by
    unfold HT.sIx
    dsimp only
    rw [if_neg (by omega)]
    omega
  have e2 : HT.sIx xs.length 0 none = 0 := rfl
  rw [e1, e2]
  simp [List.take_eq_take_iff]
/-! what makes a new list -/
def Tn (te : TE) (σ : St) (H : Hp) (xs : List V) : Prop := ∀ Q : VK, (∀ q, H q = none → Q (.ref q) (upd H q (.lst xs))) → te σ H Q
theorem Tn.go {te : TE} {σ : St} {H : Hp} {xs : List V} {Q : VK} (h : Tn te σ H xs) (k : ∀ q, H q = none → Q (.ref q) (upd H q (.lst xs))) : te σ H Q := h Q k
theorem tn_take {K : PySem.W.Frag} {σ : St} {H : Hp} {to tn : TE} {a : Addr} {xs : List V} {n : Nat} (h : Te to σ H (.ref a)) (t : Te tn σ H (.int n)) (hs : SqL K H a xs) : Tn (tSl (rSlL K) to tNoPart (tPart tn)) σ H (xs.take n) := fun Q k =>
  h _ (t _ ⟨_, rfl, a, xs, rfl, hs, fun q hq => by
    rw [cut_to]
    exact k q hq⟩)
theorem tn_list {K : PySem.W.Frag} {σ : St} {H : Hp} {te : TE} {a : Addr} {xs : List V} (h : Te te σ H (.ref a)) (hs : SqL K H a xs ∨ SqT K H a xs) : Tn (tCB (fun xs H Q => ∃ p ys, xs = [.ref p] ∧ (SqL K H p ys ∨ SqT K H p ys) ∧ ∀ l, H l = none → Q (.ref l) (upd H l (.lst ys))) (tCons te tNil)) σ H xs := fun Q k =>
  h _ ⟨a, xs, rfl, hs, k⟩
theorem tn_lst {σ : St} {H : Hp} {ta : TA} {vs : List V} (h : Ta ta σ H vs) (l : vs.length ≤ sizeLine) : Tn (tLst ta) σ H vs := fun Q k => h _ ⟨l, k⟩
theorem for_new {K : PySem.W.Frag} {σ : St} {H : Hp} {te : TE} {g : TG} {tb : TS} {D : Ends} {xs : List V} (t : Tn te σ H xs) (k : ∀ q, H q = none → tFor (iList K (tC (.ref q))) g tb D σ (upd H q (.lst xs))) : tFor (iList K te) g tb D σ H := t _ fun q hq => k q hq
/-- x = a new list -/
theorem asg_new {σ : St} {H : Hp} {te : TE} {D : Ends} {rest : TS} {i : Nat} {xs : List V} (t : Tn te σ H xs) (k : ∀ q, H q = none → rest D (σ.set i (some (.ref q))) (upd H q (.lst xs))) : tSeq (tAsg te (gName i)) rest D σ H := t _ fun q hq => k q hq
theorem go_call {σ : St} {H : Hp} {sp : Sp} {E : XK} {ta : TA} {vs : List V} {Q : VK} (ha : Ta ta σ H vs) (k : sp vs H Q E) : tCall sp [] E ta σ H Q := ha _ (by
  show sp (vs ++ []) H Q E
  rw [List.append_nil]
  exact k)
/-! what a term asks, opened by hand -/
section
variable {σ : St} {H : Hp} {ta tb te : TE} {t : TA} {D : Ends} {rest : TS} {i : Nat} {r : R2} {Q : VK}
theorem asg_un (h : te σ H fun v H' => rest D (σ.set i (some v)) H') : tSeq (tAsg te (gName i)) rest D σ H := h
theorem asg1_un (h : te σ H fun v H' => D.nx (σ.set i (some v)) H') : tAsg te (gName i) D σ H := h
theorem ret_un (h : te σ H D.rt) : tRet te D σ H := h
theorem op_un (h : ta σ H fun x H1 => tb σ H1 fun y H2 => r x y H2 Q) : tOp r ta tb σ H Q := h
theorem cb_un {c : List V → Hp → VK → Prop} (h : t σ H fun vs H1 => c vs H1 Q) : tCB c t σ H Q := h
theorem cons_un {R : List V → Hp → Prop} (h : te σ H fun v H1 => t σ H1 fun vs H2 => R (v :: vs) H2) : tCons te t σ H R := h
theorem dput_un (h : te σ H fun v H1 => ta σ H1 fun x H2 => tb σ H2 fun y H3 => ∃ a H', x = .ref a ∧ DPut H3 a y v H' ∧ D.nx σ H') : sDPut ta tb te D σ H := h
theorem lst_un (h : te σ H fun v H1 => ta σ H1 fun x H2 => tb σ H2 fun y H3 => rSetL x y v H3 fun H4 => D.nx σ H4) : tAsg te (gSub ta tb rSetL) D σ H := h
theorem call_un {sp : Sp} {E : XK} (h : t σ H fun vs H1 => sp vs H1 Q E) : tCall sp [] E t σ H Q := by
  have e : (fun vs H1 => sp (vs ++ []) H1 Q E) = fun vs H1 => sp vs H1 Q E := funext fun vs => by rw [List.append_nil]
  show t σ H fun vs H1 => sp (vs ++ []) H1 Q E
  rw [e]
  exact h
end
theorem lstd_un {σ : St} {H : Hp} {ta : TA} {Q : VK} (h : ta σ H fun vs H1 => vs.length ≤ sizeLine ∧ ∀ p, H1 p = none → Q (.ref p) (upd H1 p (.lst vs))) : tLst ta σ H Q := h
theorem nil_un {σ : St} {H : Hp} {R : List V → Hp → Prop} (h : R [] H) : tNil σ H R := h
theorem if_and {σ : St} {H : Hp} {t u : TT} {tu tw : TS} {D : Ends} {b : Bool} (h : Tt t σ H b) (h1 : b = true → tIfS u tu tw D σ H) (h2 : b = false → tw D σ H) : tIfS (tAnd t u) tu tw D σ H := h _ (by
  cases b with
  | true => exact h1 rfl
  | false => exact h2 rfl)
theorem fld_un {K : PySem.W.Frag} {σ : St} {H : Hp} {to te : TE} {D : Ends} {f : Str} (h : te σ H fun v H1 => to σ H1 fun y H2 => ∃ p C dx fs, y = .ref p ∧ H2 p = some (.ins C dx fs) ∧ Cls K C ∧ NoAttr K C f ∧ fs.length < 1000 ∧ D.nx σ (upd H2 p (.ins C dx (putF f v fs)))) : sFld K to te f D σ H := h
theorem lc_un {K : PySem.W.Frag} {σ : St} {H : Hp} {te el : TE} {g : TG} {tt : TT} {vs : List Nat} {Q : VK} (h : te σ H fun x H1 => tLc (iList K (tC x)) g tt el vs σ H1 Q) : tLc (iList K te) g tt el vs σ H Q := h
theorem for_un {K : PySem.W.Frag} {σ : St} {H : Hp} {te : TE} {g : TG} {tb : TS} {D : Ends} (h : te σ H fun x H1 => tFor (iList K (tC x)) g tb D σ H1) : tFor (iList K te) g tb D σ H := h
theorem tup_un {σ : St} {H : Hp} {ta : TA} {Q : VK} (h : ta σ H fun vs H1 => vs.length ≤ sizeLine ∧ ∀ p, H1 p = none → Q (.ref p) (upd H1 p (.tup vs))) : tTup ta σ H Q := h
theorem te_neg {σ : St} {H : Hp} {te : TE} {i : Int} (h : Te te σ H (.int i)) : Te (tUn (fun x H Q => ∃ i, x = .int i ∧ Q (.int (-i)) H) te) σ H (.int (-i)) := fun Q q => h _ ⟨i, rfl, q⟩
theorem drop_un {σ : St} {H : Hp} {te : TE} {D : Ends} (h : te σ H fun _ H1 => D.nx σ H1) : tDrop te D σ H := h
theorem app_un {K : PySem.W.Frag} {σ : St} {H : Hp} {to te : TE} {Q : VK} {l : Addr} {zs : List V} (h : Te to σ H (.ref l)) (hl : SqL K H l zs) (k : te σ H fun y H1 => rAppend (.ref l) [y] H1 Q) : tBM K "list" rAppend to (tCons te tNil) σ H Q :=
  h _ ⟨.inl ⟨rfl, _, hl⟩, k⟩
theorem atI_neg1 {xs : List V} {v : V} {n : Nat} (l : xs.length = n + 1) (e : xs[n]? = some v) : atI xs (-1) = some v := by
  unfold atI ixN
  rw [if_neg (by decide), if_pos (by omega), Option.bind_some]
  have : (-1 + (xs.length : Int)).toNat = n := by omega
  rw [this]
  exact e
theorem pair_goT {K : PySem.W.Frag} {σ : St} {H : Hp} {T : Addr} {x y : V} {i j : Nat} {P : St → Hp → Prop} (h : SqT K H T [x, y]) (k : P ((σ.set i (some x)).set j (some y)) H) : gTup K 2 (gCons (gName i) (gCons (gName j) gNil)) (.ref T) σ H P :=
  ⟨T, [x, y], rfl, h, rfl, x, [y], rfl, y, [], rfl, rfl, k⟩
theorem b_un {σ : St} {H : Hp} {te : TE} {Q : Bool → Hp → Prop} (h : te σ H fun x H1 => ∃ c, x = .bl c ∧ Q c H1) : tB te σ H Q := h
theorem iff_un {σ : St} {H : Hp} {t : TT} {tu tw : TS} {D : Ends} (h : t σ H fun b H1 => if b = true then tu D σ H1 else tw D σ H1) : tIfS t tu tw D σ H := h
theorem and_un {σ : St} {H : Hp} {t u : TT} {Q : Bool → Hp → Prop} {b : Bool} (h : Tt t σ H b) (h1 : b = true → u σ H Q) (h2 : b = false → Q false H) : tAnd t u σ H Q := h _ (by
  cases b with
  | true => exact h1 rfl
  | false => exact h2 rfl)
theorem meth_un {C : Addr} {m : Str} {sp : Sp} {E : XK} {σ : St} {H : Hp} {to : TE} {t : TA} {Q : VK} (h : to σ H fun x H1 => ∃ a dx fs, x = .ref a ∧ H1 a = some (.ins C dx fs) ∧ fs.lookup m = none ∧ t σ H1 fun vs H2 => sp (x :: vs) H2 Q E) : tMeth C m sp [] E to t σ H Q := by
  have e : (fun x vs H2 => sp (x :: (vs ++ [])) H2 Q E) = fun x vs H2 => sp (x :: vs) H2 Q E := by
    funext x vs H2
    rw [List.append_nil]
  show to σ H fun x H1 => ∃ a dx fs, x = .ref a ∧ H1 a = some (.ins C dx fs) ∧ fs.lookup m = none ∧ t σ H1 ((fun x vs H2 => sp (x :: (vs ++ [])) H2 Q E) x)
  rw [e]
  exact h
theorem cut_from {xs : List V} (n : Nat) : cutV xs (some (n : Int)) none = xs.drop n := by
  unfold cutV
  have e1 : HT.sIx xs.length 0 (some (n : Int)) = min n xs.length := by
    unfold HT.sIx
    dsimp only
    rw [if_neg (by omega)]
    omega
  have e2 : HT.sIx xs.length xs.length none = xs.length := rfl
  rw [e1, e2]
  rcases Nat.le_total n xs.length with h | h
  · rw [Nat.min_eq_left h]
    exact List.take_of_length_le (by rw [List.length_drop]; omega)
  · rw [Nat.min_eq_right h, List.drop_eq_nil_of_le (Nat.le_refl _), List.drop_eq_nil_of_le h, List.take_nil]
theorem tn_drop {K : PySem.W.Frag} {σ : St} {H : Hp} {to tn : TE} {a : Addr} {xs : List V} {n : Nat} (h : Te to σ H (.ref a)) (t : Te tn σ H (.int n)) (hs : SqL K H a xs) : Tn (tSl (rSlL K) to (tPart tn) tNoPart) σ H (xs.drop n) := fun Q k =>
  h _ (t _ ⟨_, rfl, a, xs, rfl, hs, fun q hq => by
    rw [cut_from]
    exact k q hq⟩)
end YG

/-! list(d.values()) -/
namespace YF
open PySem PySem.Spec PyProof.Rows L2
theorem vals_of_kv {kvs : List (Key × V)} : ∀ {vs : List (Key × Value)}, Paired (fun a b => a.1 = b.1 ∧ RelV a.2 b.2) kvs vs → Vals (kvs.map (·.2)) (vs.map (·.2)) := by
  intro vs h
  induction h with
  | nil => exact .nil
  | cons r t ih => exact .cons r.2 ih
def tListVals (te : TE) : TE := fun σ H Q => te σ H fun x H1 => ∃ d kvs, x = .ref d ∧ H1 d = some (.dK kvs) ∧ ∀ q, H1 q = none → Q (.ref q) (upd H1 q (.lst (kvs.map (·.2))))
section
variable {X : Cx} {e : Expr} {te : TE} {p pos apos vpos : Pos}
theorem pe_listVals (calm : X.calm = true) (pe : PE X e te) (gl : Gl X "list") (mg : X.mg "list" = none) (bt : bootBuiltins "list" = some (.type "list")) (base : attributeBase e "values" X.env (eval e X.env) = eval e X.env := by rfl) (line : (apos.endLine == vpos.line) = true := by rfl)
    (each : starEach [.Call (.Attribute e "values" apos) [] [] vpos] X.env = (false, eval (.Call (.Attribute e "values" apos) [] [] vpos) X.env) :: starEach [] X.env := by rfl) :
    PE X (.Call (.Name "list" p) [.Call (.Attribute e "values" apos) [] [] vpos] [] pos) (tListVals te) := by
  refine ⟨fun pins s σ H Q I hq => wpAny_Call_Name_kw (ld_blt I gl mg bt (PyProof.Rows.callWith_type1 ?_ each rfl))⟩
  rw [each]
  show wpAny _ _ (spliced ((false, eval (.Call (.Attribute e "values" apos) [] [] vpos) X.env) :: backTo pos (starEach [] X.env))) _ _ _
  refine Calls.spliced_cons (wpAny_Call_method (T := "dict") (id := "dict.values") base rfl line F.plainAttrs_dict F.slot_dict_values F.type_dict_values (thn (pe.run pins s σ H _ I hq) fun u s1 ⟨x, H1, J, rx, d, kvs, ex, hd, q⟩ => ?_))
  subst ex
  obtain rfl : u = .ref d := rx
  obtain ⟨hz, sys, vs, kv, dof⟩ := J.hok d _ hd
  obtain ⟨ep, dat⟩ := dof.dictAt
  have len : kvs.length = vs.length := Paired.length kv
  refine ⟨dof.typeIs, dof.mapOf.noDict, ?_⟩
  show wpAny _ _ (callWith vpos (.builtin "dict.values") [.ref d] [] []) _ X.xe s1
  refine method_meetsIn F.slot_dict_values F.entry_dict_values rfl (PySem.evalArgs_none ⟨rfl, dof.typeIs, F.args_dict_values_1 _, _, meets_dict_values (mixKind X.prog X.w) d sys, ⟨vs, dof⟩, Calls.spliced_nil ?_⟩)
  have J2 : L2.Inv X pins σ H1 { s1 with heap := s1.heap.push { cls := .type "dict_values", data := .fields #[.ref d] } } := J.kept (t' := s1.toks) fun b o e => Heap.get?_push_of_some _ e
  refine PySem.W.kdl_call (PySem.W.kdl_values (knd := mixKind X.prog X.w) (kvs := vs) (ep := ep)) (J.ok.hd calm) ⟨⟨_, Heap.get?_push_size _ rfl, rfl, rfl⟩, dat.push _⟩ (by omega) fun h' tk acc c hk hS hacc => ?_
  have ea : acc.toList = vs.map (·.2) := by
    refine List.ext_getElem? fun j => ?_
    rw [Array.getElem?_toList, List.getElem?_map]
    cases e : acc[j]? with
    | none =>
      have : vs.length ≤ j := by
        have := Array.getElem?_eq_none_iff.mp e
        rw [hacc.1] at this
        exact this
      rw [List.getElem?_eq_none this]
      rfl
    | some v =>
      obtain ⟨k, ek⟩ := hacc.2 j v e
      rw [ek]
      rfl
  refine ⟨.ref _, _, J2.laid (t' := tk) (o := .lst (kvs.map (·.2))) hk (Nat.le_refl _) ⟨by rw [List.length_map]; exact hz, acc.toList, c, by rw [ea]; exact vals_of_kv kv, ?_⟩, rfl, q _ (J2.hok.fresh (Nat.le_refl _))⟩
  rw [Array.toArray_toList]
  exact hS
end
end YF

namespace K13
open PySem L2 YF YG NdefX
/-! ### an outcome; a block without effect -/
structure OutC where
  kd : Str
  rds : Kv
  wrs : Kv
  fin : List V
  ltr : List V
  rv : V
def OutAt (A : Adr) (H : Hp) (x : Addr) (o : OutC) : Prop := ∃ dx a b f l, H x = some (.ins A.a_Outcome dx (fldO o.kd a b f l o.rv)) ∧ H a = some (.dK o.rds) ∧ H b = some (.dK o.wrs) ∧ H f = some (.lst o.fin) ∧ H l = some (.lst o.ltr)
theorem OutAt.mono {A : Adr} {H H' : Hp} {x : Addr} {o : OutC} (h : OutAt A H x o) (s : Same H H') : OutAt A H' x o := by
  obtain ⟨dx, a, b, f, l, h0, h1, h2, h3, h4⟩ := h
  exact ⟨dx, a, b, f, l, s _ _ h0, s _ _ h1, s _ _ h2, s _ _ h3, s _ _ h4⟩
/-- what is new behind H -/
def nw (H H' : Hp) : Hp := fun b => match H b with
  | none => H' b
  | some _ => none
theorem nw_at {H H' : Hp} {b : Addr} (h : H b = none) : nw H H' b = H' b := by
  unfold nw
  rw [h]
theorem nw_some {H H' : Hp} {b : Addr} {o : HO} (h : nw H H' b = some o) : H b = none ∧ H' b = some o := by
  unfold nw at h
  split at h
  · exact ⟨by assumption, h⟩
  · cases h
theorem none_of {H H1 : Hp} {b : Addr} (s : Same H H1) (h : H1 b = none) : H b = none := by
  cases e : H b with
  | none => rfl
  | some o =>
    rw [s _ _ e] at h
    cases h
theorem nw_le {H H1 H2 : Hp} (s : Same H H1) : Same (nw H1 H2) (nw H H2) := fun b o h => by
  obtain ⟨h1, h2⟩ := nw_some h
  rw [nw_at (none_of s h1)]
  exact h2
theorem paired_take {α β : Type} {F : α → β → Prop} : ∀ {xs : List α} {ys : List β} {i : Nat} {x : α}, Paired F xs ys → xs[i]? = some x → ∃ y, ys[i]? = some y ∧ F x y
  | _, _, _, _, .nil, h => by cases h
  | _, _, 0, _, .cons a r, h => by
    cases h
    exact ⟨_, rfl, a⟩
  | _, _, i + 1, _, .cons a r, h => by
    obtain ⟨y, e, q⟩ := paired_take (i := i) r (by simpa using h)
    exact ⟨y, by simpa using e, q⟩
section
variable {P : Program} {w : World} {K : PySem.W.Frag} {mg : Str → Option Value} {base : Heap} {A : Adr}
def spWE (K : PySem.W.Frag) (A : Adr) : Sp := fun vs H Q _ => ∃ (kd : Str) (r0 pn : Addr) (rv : V) (rds kvs : Kv), vs = [.str kd, .ref r0, .ref pn, rv] ∧ H r0 = some (.dK rds) ∧ PrAt K H pn kvs ∧ kvs.length ≤ 1000 ∧
  ∀ x H', Same H H' → H x = none → OutAt A (nw H H') x ⟨kd, rds, [], kvs.map (·.2), [], rv⟩ → Q (.ref x) H'
theorem makeK_un {σ : L2.St} {H : Hp} {Q : VK} {C : Addr} {n m : Nat} {sp : Sp} {gV : List V → List V → List V} {E : XK} {t tk : TA} (h : t σ H fun vs H1 => tk σ H1 fun zs H2 => vs.length = n ∧ zs.length = m ∧ ∀ x dx, H2 x = none → H2 dx = none → dx ≠ x → sp (gV (.ref x :: vs) zs) (upd (upd H2 dx (.own x)) x (.ins C dx [])) (fun v H3 => v = .non ∧ Q (.ref x) H3) E) : tMakeK C n m sp gV E t tk σ H Q := h
theorem mkO_go {H : Hp} {gV : List V → List V → List V} {E : XK} {vs zs : List V} {kd : Str} {rv : V} {rds wrs : Kv} {fin ltr : List V} {r0 w0 f0 l0 : Addr} {Q : VK} (e : ∀ x, gV (.ref x :: vs) zs = [.ref x, .str kd, .ref r0, .ref w0, .ref f0, .ref l0, rv]) (hr0 : H r0 = some (.dK rds)) (hw0 : H w0 = some (.dK wrs)) (hf0 : H f0 = some (.lst fin)) (hl0 : H l0 = some (.lst ltr))
    (k : ∀ x H', Same H H' → H x = none → OutAt A (nw H H') x ⟨kd, rds, wrs, fin, ltr, rv⟩ → Q (.ref x) H') : ∀ x dx, H x = none → H dx = none → dx ≠ x → spInitO K A.a_Outcome (gV (.ref x :: vs) zs) (upd (upd H dx (.own x)) x (.ins A.a_Outcome dx [])) (fun v H3 => v = .non ∧ Q (.ref x) H3) E := by
  intro x dx hx hd ne
  rw [e]
  have s0 : Same H (upd (upd H dx (.own x)) x (.ins A.a_Outcome dx [])) := fun c o q => by
    rw [upd_ne (ne_of_none q hx), upd_ne (ne_of_none q hd)]
    exact q
  exact ⟨x, dx, r0, w0, f0, l0, kd, rv, H, rds, wrs, fin, ltr, rfl, upd_same, s0, hx, hr0, hw0, SqL.of hf0, SqL.of hl0, fun a b f l H' ha hb hf hl s1 ex ea eb ef el => ⟨rfl, k x H' (fun c o q => s1 c o (ne_of_none q hx) (s0 _ _ q)) hx ⟨dx, a, b, f, l, by rw [nw_at hx]; exact ex, by rw [nw_at (none_of s0 ha)]; exact ea, by rw [nw_at (none_of s0 hb)]; exact eb, by rw [nw_at (none_of s0 hf)]; exact ef, by rw [nw_at (none_of s0 hl)]; exact el⟩⟩⟩
theorem ok__without_effect (T : Txt K mg A) : FnOk P w K mg base CX0 3 A.a__without_effect A.d__without_effect ["kind", "reads", "locals_now", "reason"] (spWE K A) := by
  refine T.F__without_effect.ok sc_without_effect (fun vs H Q E ⟨_, _, _, _, _, _, e, _⟩ => by rw [e]; rfl) (fun cdv A' outer s0 H vs Q E hr h => ?_)
  obtain ⟨kd, r0, pn, rv, rds, kvs, rfl, hr0, ⟨ps, h1, h2⟩, hl, k⟩ := h
  refine ⟨_, pss_cons (ps_setLc (i := 4) (own := [("_", 5), ("value", 6)]) (g := gTup K 2 (gCons (gName 5) (gCons (gName 6) gNil))) (tt := tYes) rfl sc_without_effect.nd rfl rfl (sw_true rfl rfl rfl (by decide +kernel)) (pi_list (pv 2)) (blkOk_by (N := ["kind", "reads", "locals_now", "reason", "finals", "_", "value"]) (sc := defScope s_without_effect) (by decide +kernel)) (fun _ _ _ _ _ => pg_tup (by rfl) (pgs_cons (pg_name (i := 5) sc_without_effect.nd rfl (Or.inl rfl)) (pgs_cons (pg_name (i := 6) sc_without_effect.nd rfl (Or.inl rfl)) pgs_nil))) (fun _ _ _ _ _ => pts_nil) (fun _ _ _ _ _ => pv 6))
  (pss_one (ps_ret (pe_makeK T.mk_Outcome (ok_Outcome___init__ T) (hr.mono (by decide)) (by exact rfl) T.g_Outcome (kb5 T.K_Outcome___init__).choose_spec pass0 (pa_cons (pv 0) pa_nil) (pk_cons (pv 1) (pk_cons pe_dnewK (pk_cons (pv 4) (pk_cons (pe_lst pa_nil) (pk_cons (pv 3) pk_nil)))))))), ?_⟩
  refine asg_un ?_
  refine lc_go (ti_list (te_var rfl) h1) walk_list (fun L i H' => Same H H' ∧ H' L = some (.lst ((kvs.take i).map (·.2)))) (fun L hL => ⟨Same.upd hL, upd_same⟩) (fun L i H' _ h => Same.sqL h.1 h1) ?_ fun L H' hL hP => ?_
  · rintro L i x H1 H' hL hi ⟨s1, e1⟩ ⟨rfl, ex⟩
    rw [List.getElem?_map] at ex
    obtain ⟨t, et, ev⟩ := Option.map_eq_some_iff.mp ex
    subst ev
    obtain ⟨kv, ek, q⟩ := paired_take h2 et
    refine pair_goT (Same.sqT s1 q) ⟨rfl, yes_go ?_⟩
    have lt : ((kvs.take i).map (·.2)).length < sizeLine := by
      rw [List.length_map, List.length_take, sizeLine_eq]
      omega
    refine Te.go (te_var rfl) ⟨_, e1, lt, fun b o e => ?_, ?_⟩
    · rw [upd_ne fun z => by rw [z, hL] at e; cases e]
      exact s1 _ _ e
    · rw [upd_same, List.take_add_one, ek, List.map_append]
      rfl
  · obtain ⟨s1, e1⟩ := hP
    have el : kvs.take (ps.map V.ref).length = kvs := by
      rw [List.length_map, h2.length, List.take_length]
    rw [el] at e1
    refine ret_un ?_
    refine makeK_un (cons_un (Te.go (te_var rfl) (nil_un (cons_un (Te.go (te_var rfl) (cons_un fun b hb => ?_))))))
    refine cons_un (Te.go (te_var rfl) (cons_un (lstd_un (nil_un ⟨Nat.zero_le _, fun l hl => ?_⟩))))
    have s2 : Same H' (upd (upd H' b (.dK [])) l (.lst [])) := fun c o e => by
      have nb := ne_of_none e hb
      have e2 : (upd H' b (.dK [])) c = some o := by
        rw [upd_ne nb]
        exact e
      rw [upd_ne (ne_of_none e2 hl)]
      exact e2
    have nbl : b ≠ l := fun z => by
      rw [← z, upd_same] at hl
      cases hl
    refine cons_un (Te.go (te_var rfl) (nil_un ⟨rfl, rfl, mkO_go (fun _ => rfl) (s2 _ _ (s1 _ _ hr0)) (by rw [upd_ne nbl]; exact upd_same) (s2 _ _ e1) upd_same fun x H3 s3 hx o => ?_⟩))
    refine k x H3 (fun c o e => s3 _ _ (s2 _ _ (s1 _ _ e))) ?_ (o.mono (nw_le fun c o e => s2 _ _ (s1 _ _ e)))
    cases ex : H x with
    | none => rfl
    | some u =>
      rw [s2 _ _ (s1 _ _ ex)] at hx
      cases hx
theorem ok__without_effectH (T : Txt K mg A) : L2H.FnH P w K mg base CX0 3 A.a__without_effect A.d__without_effect ["kind", "reads", "locals_now", "reason"] (spWE K A) := by
  refine okH0 T.F__without_effect sc_without_effect (fun vs H Q E ⟨_, _, _, _, _, _, e, _⟩ => by rw [e]; rfl) (fun cdv A' outer s0 H vs Q E pp hot hr h => ?_)
  obtain ⟨kd, r0, pn, rv, rds, kvs, rfl, hr0, ⟨ps, h1, h2⟩, hl, k⟩ := h
  refine ⟨_, pss_cons ((ps_setLcH (k := 4) (own := [("_", 5), ("value", 6)]) (g := gTup K 2 (gCons (gName 5) (gCons (gName 6) gNil))) ⟨_, hot, List.mem_cons_self⟩ sc_without_effect.nd rfl rfl (sw_true rfl rfl rfl (by decide +kernel)) (pv 2) (blkOk_by (N := ["kind", "reads", "locals_now", "reason", "finals", "_", "value"]) (sc := defScope s_without_effect) (by decide +kernel)) (fun z hz _ _ _ _ _ => pg_tupH ⟨z, hz, List.mem_singleton.mpr rfl⟩ (pgs_cons (pg_name (i := 5) sc_without_effect.nd rfl (Or.inl rfl)) (pgs_cons (pg_name (i := 6) sc_without_effect.nd rfl (Or.inl rfl)) pgs_nil))) (fun z hz _ _ _ _ _ => pv 6)))
  (pss_one (ps_ret (pe_makeKH T.mk_Outcome (ok_Outcome___init__H T) (hr.mono (by decide)) ⟨_, hot, List.mem_cons_self⟩ (by exact rfl) T.g_Outcome (kb5 T.K_Outcome___init__).choose_spec pass0 (pa_cons (pv 0) pa_nil) (pk_cons (pv 1) (pk_cons pe_dnewK (pk_cons (pv 4) (pk_cons (pe_lst pa_nil) (pk_cons (pv 3) pk_nil)))))))), ?_⟩
  refine asg_un ?_
  refine lc_go (ti_list (te_var rfl) h1) walk_list (fun L i H' => Same H H' ∧ H' L = some (.lst ((kvs.take i).map (·.2)))) (fun L hL => ⟨Same.upd hL, upd_same⟩) (fun L i H' _ h => Same.sqL h.1 h1) ?_ fun L H' hL hP => ?_
  · rintro L i x H1 H' hL hi ⟨s1, e1⟩ ⟨rfl, ex⟩
    rw [List.getElem?_map] at ex
    obtain ⟨t, et, ev⟩ := Option.map_eq_some_iff.mp ex
    subst ev
    obtain ⟨kv, ek, q⟩ := paired_take h2 et
    refine pair_goT (Same.sqT s1 q) ⟨rfl, yes_go ?_⟩
    have lt : ((kvs.take i).map (·.2)).length < sizeLine := by
      rw [List.length_map, List.length_take, sizeLine_eq]
      omega
    refine Te.go (te_var rfl) ⟨_, e1, lt, fun b o e => ?_, ?_⟩
    · rw [upd_ne fun z => by rw [z, hL] at e; cases e]
      exact s1 _ _ e
    · rw [upd_same, List.take_add_one, ek, List.map_append]
      rfl
  · obtain ⟨s1, e1⟩ := hP
    have el : kvs.take (ps.map V.ref).length = kvs := by
      rw [List.length_map, h2.length, List.take_length]
    rw [el] at e1
    refine ret_un ?_
    refine makeK_un (cons_un (Te.go (te_var rfl) (nil_un (cons_un (Te.go (te_var rfl) (cons_un fun b hb => ?_))))))
    refine cons_un (Te.go (te_var rfl) (cons_un (lstd_un (nil_un ⟨Nat.zero_le _, fun l hl => ?_⟩))))
    have s2 : Same H' (upd (upd H' b (.dK [])) l (.lst [])) := fun c o e => by
      have nb := ne_of_none e hb
      have e2 : (upd H' b (.dK [])) c = some o := by
        rw [upd_ne nb]
        exact e
      rw [upd_ne (ne_of_none e2 hl)]
      exact e2
    have nbl : b ≠ l := fun z => by
      rw [← z, upd_same] at hl
      cases hl
    refine cons_un (Te.go (te_var rfl) (nil_un ⟨rfl, rfl, mkO_go (fun _ => rfl) (s2 _ _ (s1 _ _ hr0)) (by rw [upd_ne nbl]; exact upd_same) (s2 _ _ e1) upd_same fun x H3 s3 hx o => ?_⟩))
    refine k x H3 (fun c o e => s3 _ _ (s2 _ _ (s1 _ _ e))) ?_ (o.mono (nw_le fun c o e => s2 _ _ (s1 _ _ e)))
    cases ex : H x with
    | none => rfl
    | some u =>
      rw [s2 _ _ (s1 _ _ ex)] at hx
      cases hx
end
end K13

namespace K13
open PySem L2 YF YG NdefX
/-! ### run_block -/
def rs0 (kvs : Kv) : RS := ⟨mergeK [] kvs, [], [], []⟩
/-- what a block comes to -/
def outB (kvs : Kv) : Re × RS → OutC
  | (.k wd, s) => if wd = "done" then ⟨wd, s.rds, s.wrs, s.loc.map (·.2), s.ltr.map V.int, .non⟩ else ⟨wd, s.rds, [], kvs.map (·.2), [], .non⟩
  | (.f r, s) => ⟨"fault", s.rds, [], kvs.map (·.2), [], .str r⟩
  | (.x, s) => ⟨"", [], [], [], [], .non⟩
theorem outB_k {kvs : Kv} {wd : Str} {s : RS} : outB kvs (.k wd, s) = if wd = "done" then ⟨wd, s.rds, s.wrs, s.loc.map (·.2), s.ltr.map V.int, .non⟩ else ⟨wd, s.rds, [], kvs.map (·.2), [], .non⟩ := rfl
theorem outB_f {kvs : Kv} {r : Str} {s : RS} : outB kvs (.f r, s) = ⟨"fault", s.rds, [], kvs.map (·.2), [], .str r⟩ := rfl
theorem lv_un {σ : L2.St} {H : Hp} {te : TE} {Q : VK} (h : te σ H fun x H1 => ∃ d kvs, x = .ref d ∧ H1 d = some (.dK kvs) ∧ ∀ q, H1 q = none → Q (.ref q) (upd H1 q (.lst (kvs.map (·.2))))) : tListVals te σ H Q := h
theorem callS_un {σ : L2.St} {H : Hp} {ta : TA} {sp : Sp} {E : L2.St → XK} {Q : VK} (h : ta σ H fun vs H1 => sp vs H1 Q (E σ)) : tCallS sp E ta σ H Q := h
/-- what is new behind H, but for tables -/
def nwT (H H' : Hp) : Hp := fun b => match H b with
  | none => H' b
  | some (.tbl _) => H' b
  | some _ => none
theorem nwT_at {H H' : Hp} {b : Addr} (h : NK H b) : nwT H H' b = H' b := by
  unfold nwT
  cases e : H b with
  | none => rfl
  | some o =>
    obtain ⟨ps, rfl⟩ := h o e
    rfl
theorem nwT_some {H H' : Hp} {b : Addr} {o : HO} (h : nwT H H' b = some o) : NK H b ∧ H' b = some o := by
  unfold nwT at h
  split at h
  · rename_i e
    exact ⟨NK.of e, h⟩
  · rename_i ps e
    exact ⟨fun u z => by rw [e] at z; cases z; exact ⟨ps, rfl⟩, h⟩
  · cases h
theorem nwT_le {H H2 H3 : Hp} (al : Alive H H2) : Same (nw H2 H3) (nwT H H3) := fun b o h => by
  obtain ⟨h1, h2⟩ := nw_some h
  rw [nwT_at ((NK.of h1).back al)]
  exact h2
theorem alive_of {H H1 : Hp} (s : Same H H1) : Alive H H1 := fun x o e n => ⟨o, s _ _ e, n⟩
section
variable {P : Program} {w : World} {K : PySem.W.Frag} {mg : Str → Option Value} {base : Heap} {A : Adr}
theorem PrAt.sub {B H : Hp} {pn : Addr} {kvs : Kv} (h : PrAt K B pn kvs) (s : Same B H) : PrAt K H pn kvs := h.mono s
def spRB (K : PySem.W.Frag) (A : Adr) (n : Nat) : Sp := fun vs H Q _ => ∃ (v : V) (pc pn pm : Addr) (B : Hp) (b : Bd) (names : List Str) (cs : List Cl) (ms : List Int) (kvs : Kv), vs = [v, .ref pc, .ref pn, .ref pm] ∧ Same B H ∧ (∀ b ps, B b ≠ some (.tbl ps)) ∧ Rp K B (.lst b.row) [v] ∧ b.ok names ∧ b.dp < n ∧ CellsIn K B pc cs ∧ PrAt K B pn kvs ∧ B pm = some (.lst (ms.map V.int)) ∧
  OkS names cs ms (rs0 kvs) ∧ (exB cs ms b (rs0 kvs)).1 ≠ .x ∧ TabsN (TabV A) H ∧ kvs.length ≤ 1000 ∧ ∀ x H', Kp [] H H' → TabsN (TabV A) H' → OkS names cs ms (exB cs ms b (rs0 kvs)).2 → OutAt A (nwT H H') x (outB kvs (exB cs ms b (rs0 kvs))) → Q (.ref x) H'
theorem ok_run_block (nB : Nat) (TB : LamX.TabB base mg A.c_Run__value A.t_Run__value) (T : Txt K mg A) : FnOk P w K mg base CX0 (3 * nB + 15) A.a_run_block A.d_run_block ["body", "cells", "locals_now", "memory"] (spRB K A nB) := by
  refine T.F_run_block.ok sc_run_block (fun vs H Q E ⟨_, _, _, _, _, _, _, _, _, _, e, _⟩ => by rw [e]; rfl) (fun cdv A' outer s0 H vs Q E hr h => ?_)
  obtain ⟨v, pc, pn, pm, B, b, names, cs, ms, kvs, rfl, sb, nt, r, ok, hdp, hc, hn, hm, O, nx, tab, hl, k⟩ := h
  refine ⟨_, pss_cons (ps_set (i := 4) sc_run_block.nd rfl (Or.inl rfl) (pe_make T.mk_Run (ok_Run___init__ T) (hr.mono (by omega)) rfl T.g_Run T.b_Run___init__ .nil pass0 (pa_cons (pv 1) (pa_cons (pv 2) (pa_cons (pv 3) pa_nil)))))
  (pss_cons (L2N.ps_try_as (tb := fun W => tAsg (tMethC A.a_Run "do_list" (spList K A nB) (WE W) (tVar 4) (tCons (tVar 0) tNil)) (gName 5)) (ts := fun a cls d => tRet (tCallS (spWE K A) (fun _ => E0) (tCons (tC (.str "fault")) (tCons (tFld K (tVar 4) "reads") (tCons (tVar 2) (tCons (tXf a cls d A.a_Fault "reason" (tVar 6)) tNil)))))) (Wout := fun _ _ _ _ => False) (i := 6) rfl rfl sc_run_block.nd rfl rfl ⟨rfl, by decide, .inl T.g_Fault⟩ takes0N
      (fun W pn xe tk _ => pss_one (ps_set (i := 5) sc_run_block.nd rfl (Or.inl rfl) (pe_methE (pv 4) T.cl_Run T.m_Run_do_list (ok_Run_do_list TB T nB) (hr.mono (by omega)) T.b_Run_do_list (fun σ => L2N.passAt tk σ) (pa_cons (pv 0) pa_nil))))
      (fun a oe cls d pn hz hf => pss_one (ps_ret (L2H.pe_callH (E := fun _ => E0) (ok__without_effectH T) (L2H.roomH_mark (hr.mono (by omega)) _) (hotS hz hf) rfl T.g__without_effect T.F__without_effect.kp T.b__without_effect (fun _ _ _ _ _ _ _ z => z.elim) (pa_cons pe_str (pa_cons (pe_fld (pv 4) rfl) (pa_cons (pv 2) (pa_cons (pe_xf T.Fault_x T.no_Fault_reason hz.zc hf (pv 6)) pa_nil))))))))
  (pss_cons (ps_if (pt_cmpR op_ne (pv 5) (pe_str) (nomark _))
  (pss_one (ps_ret (pe_call (ok__without_effect T) (hr.mono (by omega)) rfl T.g__without_effect T.F__without_effect.kp T.b__without_effect .nil pass0 (pa_cons (pv 5) (pa_cons (pe_fld (pv 4) rfl) (pa_cons (pv 2) (pa_cons (pe_non) pa_nil)))))))
  (pss_nil))
  (pss_cons (ps_set (i := 7) sc_run_block.nd rfl (Or.inl rfl) (pe_listVals rfl (pe_fld (pv 4) rfl) (by exact rfl) T.n_list (by decide +kernel)))
  (pss_one (ps_ret (pe_makeK T.mk_Outcome (ok_Outcome___init__ T) (hr.mono (by omega)) (by exact rfl) T.g_Outcome (kb4 T.K_Outcome___init__).choose_spec pass0 (pa_cons (pv 5) pa_nil) (pk_cons (pe_fld (pv 4) rfl) (pk_cons (pe_fld (pv 4) rfl) (pk_cons (pv 7) (pk_cons (pe_fld (pv 4) rfl) pk_nil)))))))))), ?_⟩
  refine asg_un (go_make (ta_cons (te_var rfl) (ta_cons (te_var rfl) (ta_cons (te_var rfl) ta_nil))) fun x dx hx hd ne => ?_)
  have s0' : Same H (upd (upd H dx (.own x)) x (.ins A.a_Run dx [])) := fun c o q => by
    rw [upd_ne (ne_of_none q hx), upd_ne (ne_of_none q hd)]
    exact q
  have back0 : ∀ {c : Addr}, (upd (upd H dx (.own x)) x (.ins A.a_Run dx [])) c = none → H c = none := fun {c} e => by
    cases q : H c with
    | none => rfl
    | some o =>
      rw [s0' _ _ q] at e
      cases e
  have noB : ∀ {c : Addr}, H c = none → B c = none := fun {c} e => by
    cases q : B c with
    | none => rfl
    | some o =>
      rw [sb _ _ q] at e
      cases e
  refine ⟨x, dx, pc, pn, pm, B, cs, kvs, ms, rfl, upd_same, fun c o q => s0' _ _ (sb _ _ q), noB hx, hc, hn, hm, fun p H1 ep e2 e3 hdl hdr hdw hll s1 RA => ⟨rfl, ?_⟩⟩
  have sH1 : Same H H1 := fun c o q => s1 c o (ne_of_none q hx) (s0' _ _ q)
  have fresh : ∀ c ∈ own p, H c = none := fun c m => by
    simp only [own, List.mem_cons, List.not_mem_nil, or_false] at m
    rcases m with rfl | rfl | rfl | rfl | rfl
    · rw [ep]
      exact hx
    · exact back0 hdl
    · exact back0 hdr
    · exact back0 hdw
    · exact back0 hll
  have RH : RunH K A H1 B p names cs ms (rs0 kvs) := ⟨RA, fun c o q => sH1 _ _ (sb _ _ q), fun c m => noB (fresh c m), nt, by rw [e2]; exact hc, by rw [e3]; exact hm, O, fun t ht => (tab t ht).ext sH1⟩
  have kpo : ∀ {G : Hp}, Kp (own p) H1 G → Kp [] H G := fun g c o _ q n => g c o (fun m => by rw [fresh c m] at q; cases q) (sH1 _ _ q) n
  subst ep
  have same3 : ∀ {G G3 : Hp}, Kp [] H G → Same G G3 → Kp [] H G3 := fun g s c o m q n => s _ _ (g c o m q n)
  refine ⟨_, rfl, p.self, p.dx, fldR p, rfl, RH.at_.ob, rfl, _, rfl, p, B, b, v, names, cs, ms, rs0 kvs, rfl, RH, r, ok, hdp, nx, fun wd s2 H2 q ex S => ?_, fun rr s2 d H2 q ex S nd hd2 => ?_⟩
  · rw [ex] at k
    have o2 := S.run.at_.ob
    rw [S.nx.self] at o2
    dsimp only [gName]
    refine set_sl (σ' := [some v, some (.ref pc), some (.ref pn), some (.ref pm), some (.ref p.self), some (.str wd), none, none]) rfl ?_
    refine if_go (tt_test (te_ne (te_var rfl) te_c rfl)) (fun hw => ?_) fun hw => ?_
    · have hw : wd ≠ "done" := by
        rw [deq_str] at hw
        simpa using hw
      rw [outB_k, if_neg hw] at k
      refine ret_un (call_un ((ta_cons (te_var rfl) (ta_cons (te_fld (te_var rfl) o2 T.cl_Run T.no_Run_reads rfl) (ta_cons (te_var rfl) (ta_cons te_c ta_nil)))) _ ⟨wd, q.dr, pn, .non, s2.rds, kvs, rfl, S.run.at_.rds, hn.mono S.run.sb, hl, fun y H3 s3 hy o => ?_⟩))
      exact k y H3 (same3 (kpo S.kp) s3) (fun t ht => (S.run.tab t ht).ext s3) S.run.ok (o.mono (nwT_le ((alive_of sH1).trans S.al)))
    · have hw : wd = "done" := by
        rw [deq_str] at hw
        simpa using hw
      rw [outB_k, if_pos hw] at k
      refine asg_un (lv_un (Te.go (te_fld (te_var rfl) o2 T.cl_Run T.no_Run_locals_now rfl) ⟨q.dl, s2.loc, rfl, S.run.at_.loc, fun f hf => ?_⟩))
      have sf : Same H2 (upd H2 f (.lst (s2.loc.map (·.2)))) := Same.upd hf
      refine set_sl (σ' := [some v, some (.ref pc), some (.ref pn), some (.ref pm), some (.ref p.self), some (.str wd), none, some (.ref f)]) rfl ?_
      have o3 := sf _ _ o2
      refine ret_un (makeK_un (cons_un (Te.go (te_var rfl) (nil_un (cons_un (Te.go (te_fld (te_var rfl) o3 T.cl_Run T.no_Run_reads rfl) (cons_un (Te.go (te_fld (te_var rfl) o3 T.cl_Run T.no_Run_writes rfl) ?_))))))))
      refine cons_un (Te.go (te_var rfl) (cons_un (Te.go (te_fld (te_var rfl) o3 T.cl_Run T.no_Run_later rfl) (nil_un ⟨rfl, rfl, mkO_go (fun _ => rfl) (sf _ _ S.run.at_.rds) (sf _ _ S.run.at_.wrs) upd_same (sf _ _ S.run.at_.ltr) fun y H3 s3 hy o => ?_⟩))))
      exact k y H3 (same3 (same3 (kpo S.kp) sf) s3) (fun t ht => ((S.run.tab t ht).ext sf).ext s3) S.run.ok (o.mono (nwT_le (((alive_of sH1).trans S.al).trans (alive_of sf))))
  · rw [ex, outB_f] at k
    have o2 := S.run.at_.ob
    rw [S.nx.self] at o2
    refine ⟨true, T.e_Fault_Fault, fun _ a ha => ?_, fun h => nomatch h⟩
    refine set_sl (σ' := [some v, some (.ref pc), some (.ref pn), some (.ref pm), some (.ref p.self), none, some (.ref a), none]) rfl ?_
    have tx : Te (tXf a (.ref A.a_Fault) (some d) A.a_Fault "reason" (tVar 6)) [some v, some (.ref pc), some (.ref pn), some (.ref pm), some (.ref p.self), none, some (.ref a), none] H2 (.str rr) := fun Q q => ⟨_, rfl, rfl, rfl, d, _, _, rfl, hd2, rfl, q⟩
    refine ret_un (callS_un ((ta_cons te_c (ta_cons (te_fld (te_var rfl) o2 T.cl_Run T.no_Run_reads rfl) (ta_cons (te_var rfl) (ta_cons tx ta_nil)))) _ ⟨_, q.dr, pn, .str rr, s2.rds, kvs, rfl, S.run.at_.rds, hn.mono S.run.sb, hl, fun y H3 s3 hy o => ?_⟩))
    exact k y H3 (same3 (kpo S.kp) s3) (fun t ht => (S.run.tab t ht).ext s3) S.run.ok (o.mono (nwT_le ((alive_of sH1).trans S.al)))
end
end K13

namespace K13
open PySem L2 YF NdefX
/-! ### what was read decides a run -/
def RdLe (s s' : RS) : Prop := ∀ k : Int, (valV s.rds (.inl k : Key)).isSome = true → (valV s'.rds (.inl k : Key)).isSome = true
theorem RdLe.refl {s : RS} : RdLe s s := fun _ h => h
theorem RdLe.trans {a b c : RS} (h : RdLe a b) (g : RdLe b c) : RdLe a c := fun k q => g k (h k q)
theorem RdLe.of {s s' : RS} (h : s.rds = s'.rds) : RdLe s s' := fun k q => by rw [← h]; exact q
def Agr (ms ms' : List Int) (s : RS) : Prop := ∀ k : Int, (valV s.rds (.inl k : Key)).isSome = true → ms.getD k.toNat 0 = ms'.getD k.toNat 0
theorem Agr.back {ms ms' : List Int} {s s' : RS} (h : Agr ms ms' s') (l : RdLe s s') : Agr ms ms' s := fun k q => h k (l k q)
section
variable {cs : List Cl} {ms ms' : List Int}
theorem rd_le {s : RS} {k : Int} : RdLe s (rd ms s k).2 := by
  unfold rd
  split
  · exact .refl
  · intro j h
    show (valV (putK s.rds (.inl k : Key) _) (.inl j : Key)).isSome = true
    rw [valV_put]
    by_cases e : (.inl j : Key) = .inl k
    · rw [if_pos e]
      rfl
    · rw [if_neg e]
      exact h
theorem rd_same {s : RS} {k : Int} (h : Agr ms ms' (rd ms s k).2) : rd ms' s k = rd ms s k := by
  unfold rd at h ⊢
  split
  · rfl
  · rename_i hn
    have e : ms.getD k.toNat 0 = ms'.getD k.toNat 0 := by
      split at h
      · rename_i n q
        exact absurd q (hn n)
      · refine h k ?_
        show (valV (putK s.rds (.inl k : Key) _) (.inl k : Key)).isSome = true
        rw [valV_put, if_pos rfl]
        rfl
    rw [e]
theorem lk_le {s : RS} {e : Ex} {is : List Int} : RdLe s (lkR cs ms s e is).2 := by
  cases e with
  | var w x =>
    cases x with
    | str x =>
      show RdLe s (match valV s.loc (.inr x : Key) with | some (.int n) => (Rz.ok n, s) | _ => (Rz.er "", s) : Rz × RS).2
      split <;> exact .refl
    | _ => exact .refl
  | cell nm a =>
    show RdLe s (match place cs nm (is.headD 0) 0 with | some k => rd ms s k | none => (Rz.er "index", s)).2
    cases place cs nm (is.headD 0) 0 with
    | none => exact .refl
    | some k => exact rd_le
  | _ => exact .refl
theorem lk_same {s : RS} {e : Ex} {is : List Int} (h : Agr ms ms' (lkR cs ms s e is).2) : lkR cs ms' s e is = lkR cs ms s e is := by
  cases e with
  | var w x => cases x <;> rfl
  | cell nm a =>
    have e1 : ∀ ms, lkR cs ms s (.cell nm a) is = (match place cs nm (is.headD 0) 0 with | some k => rd ms s k | none => (Rz.er "index", s)) := fun _ => rfl
    rw [e1] at h ⊢
    rw [e1]
    cases q : place cs nm (is.headD 0) 0 with
    | none => rfl
    | some k =>
      rw [q] at h
      exact rd_same h
  | _ => rfl
theorem res_le {s : RS} {e : Ex} {is : List Int} : RdLe s (resE (lkR cs ms) s e is).2 := by
  cases e with
  | two w a b =>
    rw [resE_two]
    by_cases q : logic w
    · rw [if_pos q]
      exact .refl
    · rw [if_neg q]
      cases f2 w (is.headD 0) (is.getLastD 0) <;> exact .refl
  | var w x => exact lk_le (e := .var w x)
  | cell x a => exact lk_le (e := .cell x a)
  | num n => exact .refl
  | one w a => exact .refl
theorem res_same {s : RS} {e : Ex} {is : List Int} (h : Agr ms ms' (resE (lkR cs ms) s e is).2) : resE (lkR cs ms') s e is = resE (lkR cs ms) s e is := by
  cases e with
  | var w x => exact lk_same (e := .var w x) h
  | cell x a => exact lk_same (e := .cell x a) h
  | num n => rfl
  | one w a => rfl
  | two w a b =>
    rw [resE_two, resE_two]
theorem then_le {s : RS} {r : Rz × RS} {f : Int → RS → Rz × RS} (h : RdLe s r.2) (k : ∀ i t, RdLe t (f i t).2) : RdLe s (thenE r f).2 := by
  obtain ⟨a, t⟩ := r
  cases a with
  | ok i => exact h.trans (k i t)
  | er z => exact h
theorem then_same {r r' : Rz × RS} {f g : Int → RS → Rz × RS} (hl : ∀ i t, RdLe t (f i t).2) (h : Agr ms ms' (thenE r f).2) (e : Agr ms ms' r.2 → r' = r) (k : ∀ i t, Agr ms ms' (f i t).2 → g i t = f i t) : thenE r' g = thenE r f := by
  obtain ⟨a, t⟩ := r
  cases a with
  | ok i =>
    have h : Agr ms ms' (f i t).2 := h
    rw [e (h.back (hl i t))]
    exact k i t h
  | er z =>
    rw [e h]
    rfl
theorem ev_le : ∀ {e : Ex} {s : RS}, RdLe s (ev (lkR cs ms) s e).2
  | .num n, s => res_le (e := .num n)
  | .var w x, s => res_le (e := .var w x)
  | .cell x a, s => then_le (ev_le (e := a)) fun i t => res_le (e := .cell x a)
  | .one w a, s => then_le (ev_le (e := a)) fun i t => res_le (e := .one w a)
  | .two w a b, s => then_le (ev_le (e := a)) fun i t => by
    by_cases q : dec w [i] = true
    · rw [if_pos q]
      exact res_le (e := .two w a b)
    · rw [if_neg q]
      exact then_le (ev_le (e := b)) fun j u => res_le (e := .two w a b)
theorem ev_same : ∀ {e : Ex} {s : RS}, Agr ms ms' (ev (lkR cs ms) s e).2 → ev (lkR cs ms') s e = ev (lkR cs ms) s e
  | .num n, s, h => res_same (e := .num n) h
  | .var w x, s, h => res_same (e := .var w x) h
  | .cell x a, s, h => then_same (fun i t => res_le (e := .cell x a)) h (fun g => ev_same (e := a) g) fun i t g => res_same (e := .cell x a) g
  | .one w a, s, h => then_same (fun i t => res_le (e := .one w a)) h (fun g => ev_same (e := a) g) fun i t g => res_same (e := .one w a) g
  | .two w a b, s, h => by
    refine then_same (f := fun i s => if dec w [i] = true then resE (lkR cs ms) s (.two w a b) [i] else thenE (ev (lkR cs ms) s b) fun j s => resE (lkR cs ms) s (.two w a b) [i, j]) (fun i t => ?_) h (fun g => ev_same (e := a) g) fun i t g => ?_
    · by_cases q : dec w [i] = true
      · rw [if_pos q]
        exact res_le (e := .two w a b)
      · rw [if_neg q]
        exact then_le (ev_le (e := b)) fun j u => res_le (e := .two w a b)
    · by_cases q : dec w [i] = true
      · rw [if_pos q] at g ⊢
        rw [if_pos q]
        exact res_same (e := .two w a b) g
      · rw [if_neg q] at g ⊢
        rw [if_neg q]
        exact then_same (fun j u => res_le (e := .two w a b)) g (fun g => ev_same (e := b) g) fun j u g => res_same (e := .two w a b) g
theorem val_le {s : RS} {r : Rz × RS} {f : Int → RS → Re × RS} (h : RdLe s r.2) (k : ∀ i t, RdLe t (f i t).2) : RdLe s (valE r f).2 := by
  obtain ⟨a, t⟩ := r
  cases a with
  | ok i => exact h.trans (k i t)
  | er z => exact h
theorem val_same {r r' : Rz × RS} {f g : Int → RS → Re × RS} (hl : ∀ i t, RdLe t (f i t).2) (h : Agr ms ms' (valE r f).2) (e : Agr ms ms' r.2 → r' = r) (k : ∀ i t, Agr ms ms' (f i t).2 → g i t = f i t) : valE r' g = valE r f := by
  obtain ⟨a, t⟩ := r
  cases a with
  | ok i =>
    have h : Agr ms ms' (f i t).2 := h
    rw [e (h.back (hl i t))]
    exact k i t h
  | er z =>
    rw [e h]
    rfl
theorem and_le {s : RS} {r : Re × RS} {f : RS → Re × RS} (h : RdLe s r.2) (k : ∀ t, RdLe t (f t).2) : RdLe s (andB r f).2 := by
  obtain ⟨a, t⟩ := r
  cases a with
  | k w =>
    show RdLe s (if w = "done" then f t else (.k w, t)).2
    by_cases q : w = "done"
    · rw [if_pos q]
      exact h.trans (k t)
    · rw [if_neg q]
      exact h
  | f z => exact h
  | x => exact h
theorem and_same {r r' : Re × RS} {f g : RS → Re × RS} (hl : ∀ t, RdLe t (f t).2) (h : Agr ms ms' (andB r f).2) (e : Agr ms ms' r.2 → r' = r) (k : ∀ t, Agr ms ms' (f t).2 → g t = f t) : andB r' g = andB r f := by
  obtain ⟨a, t⟩ := r
  cases a with
  | k w =>
    have h : Agr ms ms' (if w = "done" then f t else (.k w, t)).2 := h
    by_cases q : w = "done"
    · rw [if_pos q] at h
      rw [e (h.back (hl t))]
      show (if w = "done" then g t else (.k w, t)) = (if w = "done" then f t else (.k w, t))
      rw [if_pos q, if_pos q]
      exact k t h
    · rw [if_neg q] at h
      rw [e h]
      show (if w = "done" then g t else (.k w, t)) = (if w = "done" then f t else (.k w, t))
      rw [if_neg q, if_neg q]
  | f z =>
    rw [e h]
    rfl
  | x =>
    rw [e h]
    rfl
theorem loop_le {f : RS → Re × RS} (k : ∀ t, RdLe t (f t).2) : ∀ (n : Nat) (s : RS), RdLe s (loopB n f s).2
  | 0, s => .refl
  | n + 1, s => and_le (k s) fun t => loop_le k n t
theorem loop_same {f g : RS → Re × RS} (hl : ∀ t, RdLe t (f t).2) (k : ∀ t, Agr ms ms' (f t).2 → g t = f t) : ∀ (n : Nat) (s : RS), Agr ms ms' (loopB n f s).2 → loopB n g s = loopB n f s
  | 0, s, _ => rfl
  | n + 1, s, h => and_same (fun t => loop_le hl n t) h (fun q => k s q) fun t q => loop_same hl k n t q
mutual
theorem exS_le : ∀ (b : Sm) (s : RS), RdLe s (exS cs ms b s).2
  | .set x e, s => val_le ev_le fun i t => .of rfl
  | .put nm i e, s => val_le ev_le fun i t => val_le ev_le fun j u => by
    cases place cs nm i 0 with
    | none => exact .refl
    | some k => exact .of rfl
  | .later e, s => val_le ev_le fun i t => by
    by_cases q : t.ltr.length < 100000
    · rw [if_pos q]
      exact .of rfl
    · rw [if_neg q]
      exact .refl
  | .cond c x y, s => val_le ev_le fun i t => by
    by_cases q : i ≠ 0
    · rw [if_pos q]
      exact exB_le x t
    · rw [if_neg q]
      exact exB_le y t
  | .rep c x, s => val_le ev_le fun i t => by
    by_cases q : i < 0 ∨ 20 < i
    · rw [if_pos q]
      exact .refl
    · rw [if_neg q]
      exact loop_le (exB_le x) _ _
  | .choose x y, s => by
    have h := exB_le x s
    show RdLe s (match exB cs ms x s with | (.k w, s1) => if w = "retry" then exB cs ms y { s with rds := s1.rds } else (.k w, s1) | (.f z, s1) => (.f z, s1) | (.x, s1) => (.x, s1)).2
    cases e : exB cs ms x s with
    | mk a t =>
      rw [e] at h
      cases a with
      | k w =>
        show RdLe s (if w = "retry" then exB cs ms y { s with rds := t.rds } else (.k w, t)).2
        by_cases q : w = "retry"
        · rw [if_pos q]
          exact RdLe.trans (b := { s with rds := t.rds }) h (exB_le y _)
        · rw [if_neg q]
          exact h
      | f z => exact h
      | x => exact h
  | .word w, s => .refl
theorem exB_le : ∀ (b : Bd) (s : RS), RdLe s (exB cs ms b s).2
  | .nil, s => .refl
  | .cons a r, s => and_le (exS_le a s) fun t => exB_le r t
end
mutual
theorem exS_same : ∀ (b : Sm) (s : RS), Agr ms ms' (exS cs ms b s).2 → exS cs ms' b s = exS cs ms b s
  | .set x e, s, h => val_same (fun i t => .of rfl) h (fun g => ev_same g) fun i t g => rfl
  | .put nm i e, s, h => by
    have pl : ∀ (i j : Int) (u : RS), RdLe u (match place cs nm i 0 with | some k => (.k "done", { u with wrs := putK u.wrs (.inl k : Key) (.int j) }) | none => (.f "index", u) : Re × RS).2 := fun i j u => by
      cases place cs nm i 0 with
      | none => exact .refl
      | some k => exact .of rfl
    exact val_same (fun i t => val_le ev_le fun j u => pl i j u) h (fun g => ev_same g) fun i t g => val_same (fun j u => pl i j u) g (fun g => ev_same g) fun j u g => rfl
  | .later e, s, h => by
    refine val_same (fun i t => ?_) h (fun g => ev_same g) fun i t g => rfl
    by_cases q : t.ltr.length < 100000
    · rw [if_pos q]
      exact .of rfl
    · rw [if_neg q]
      exact .refl
  | .cond c x y, s, h => by
    refine val_same (f := fun n s => if n ≠ 0 then exB cs ms x s else exB cs ms y s) (fun i t => ?_) h (fun g => ev_same g) fun i t g => ?_
    · by_cases q : i ≠ 0
      · rw [if_pos q]
        exact exB_le x t
      · rw [if_neg q]
        exact exB_le y t
    · by_cases q : i ≠ 0
      · rw [if_pos q] at g ⊢
        rw [if_pos q]
        exact exB_same x t g
      · rw [if_neg q] at g ⊢
        rw [if_neg q]
        exact exB_same y t g
  | .rep c x, s, h => by
    refine val_same (f := fun n s => if n < 0 ∨ 20 < n then (.f "count", s) else loopB n.toNat (exB cs ms x) s) (fun i t => ?_) h (fun g => ev_same g) fun i t g => ?_
    · by_cases q : i < 0 ∨ 20 < i
      · rw [if_pos q]
        exact .refl
      · rw [if_neg q]
        exact loop_le (exB_le x) _ _
    · by_cases q : i < 0 ∨ 20 < i
      · rw [if_pos q, if_pos q]
      · rw [if_neg q] at g ⊢
        rw [if_neg q]
        exact loop_same (exB_le x) (exB_same x) _ _ g
  | .choose x y, s, h => by
    have e0 : ∀ ms, exS cs ms (.choose x y) s = (match exB cs ms x s with | (.k w, s1) => if w = "retry" then exB cs ms y { s with rds := s1.rds } else (.k w, s1) | (.f z, s1) => (.f z, s1) | (.x, s1) => (.x, s1)) := fun _ => rfl
    rw [e0] at h ⊢
    rw [e0]
    have hx := exB_same x s
    cases e : exB cs ms x s with
    | mk a t =>
      rw [e] at h hx
      cases a with
      | k w =>
        have h : Agr ms ms' (if w = "retry" then exB cs ms y { s with rds := t.rds } else (.k w, t)).2 := h
        by_cases q : w = "retry"
        · rw [if_pos q] at h
          rw [hx (fun k g => h.back (exB_le y _) k g)]
          show (if w = "retry" then exB cs ms' y { s with rds := t.rds } else (.k w, t)) = (if w = "retry" then exB cs ms y { s with rds := t.rds } else (.k w, t))
          rw [if_pos q, if_pos q]
          exact exB_same y _ h
        · rw [if_neg q] at h
          rw [hx h]
          show (if w = "retry" then exB cs ms' y { s with rds := t.rds } else (.k w, t)) = (if w = "retry" then exB cs ms y { s with rds := t.rds } else (.k w, t))
          rw [if_neg q, if_neg q]
      | f z =>
        rw [hx h]
      | x =>
        rw [hx h]
  | .word w, s, _ => rfl
theorem exB_same : ∀ (b : Bd) (s : RS), Agr ms ms' (exB cs ms b s).2 → exB cs ms' b s = exB cs ms b s
  | .nil, s, _ => rfl
  | .cons a r, s, h => and_same (exB_le r) h (exS_same a s) (exB_same r)
end
end
end K13

namespace K13
open PySem L2 YF NdefX
/-! ### how much a body may say later -/
mutual
def Sm.cst : Sm → Nat
  | .later _ => 1
  | .cond _ a b => a.cst + b.cst
  | .rep _ b => 20 * b.cst
  | .choose a b => a.cst + b.cst
  | _ => 0
def Bd.cst : Bd → Nat
  | .nil => 0
  | .cons s r => s.cst + r.cst
end
/-- no more than c is said later; there is room -/
def Fits (s : RS) (c : Nat) (r : Re × RS) : Prop := r.1 ≠ .x ∧ r.2.ltr.length ≤ s.ltr.length + c
section
variable {names : List Str} {cs : List Cl} {ms : List Int}
theorem fits_val {s : RS} {c : Nat} {r : Rz × RS} {f : Int → RS → Re × RS} (h : r.2.ltr = s.ltr) (k : ∀ i t, t.ltr = s.ltr → Fits s c (f i t)) : Fits s c (valE r f) := by
  obtain ⟨a, t⟩ := r
  cases a with
  | ok i => exact k i t h
  | er z =>
    have h : t.ltr = s.ltr := h
    exact ⟨(fun z => by cases z), by show t.ltr.length ≤ _; rw [h]; omega⟩
theorem ev_ltr (e : Ex) (s : RS) : (ev (lkR cs ms) s e).2.ltr = s.ltr := by
  have L : ∀ {s : RS} {e : Ex} {is : List Int}, (lkR cs ms s e is).2.ltr = s.ltr := by
    intro s e is
    cases e with
    | var w x =>
      cases x with
      | str x =>
        show (match valV s.loc (.inr x : Key) with | some (.int n) => (Rz.ok n, s) | _ => (Rz.er "", s) : Rz × RS).2.ltr = _
        split <;> rfl
      | _ => rfl
    | cell nm a =>
      show (match place cs nm (is.headD 0) 0 with | some k => rd ms s k | none => (Rz.er "index", s)).2.ltr = _
      cases place cs nm (is.headD 0) 0 with
      | none => rfl
      | some k =>
        show (rd ms s k).2.ltr = _
        unfold rd
        split <;> rfl
    | _ => rfl
  have G : ∀ {s : RS} {e : Ex} {is : List Int}, (resE (lkR cs ms) s e is).2.ltr = s.ltr := by
    intro s e is
    cases e with
    | two w a b =>
      rw [resE_two]
      by_cases q : logic w
      · rw [if_pos q]
      · rw [if_neg q]
        cases f2 w (is.headD 0) (is.getLastD 0) <;> rfl
    | var w x => exact L (e := .var w x)
    | cell x a => exact L (e := .cell x a)
    | num n => rfl
    | one w a => rfl
  have Th : ∀ {s : RS} {r : Rz × RS} {f : Int → RS → Rz × RS}, r.2.ltr = s.ltr → (∀ i t, (f i t).2.ltr = t.ltr) → (thenE r f).2.ltr = s.ltr := by
    intro s r f h k
    obtain ⟨a, t⟩ := r
    cases a with
    | ok i => exact (k i t).trans h
    | er z => exact h
  induction e generalizing s with
  | num n => exact G (e := .num n)
  | var w x => exact G (e := .var w x)
  | cell x a ih => exact Th (ih s) fun i t => G (e := .cell x a)
  | one w a ih => exact Th (ih s) fun i t => G (e := .one w a)
  | two w a b iha ihb =>
    refine Th (iha s) fun i t => ?_
    by_cases q : dec w [i] = true
    · rw [if_pos q]
      exact G (e := .two w a b)
    · rw [if_neg q]
      exact Th (ihb t) fun j u => G (e := .two w a b)
theorem fits_and {s : RS} {c d : Nat} {r : Re × RS} {f : RS → Re × RS} (h : Fits s c r) (k : ∀ t, t.ltr.length ≤ s.ltr.length + c → Fits t d (f t)) : Fits s (c + d) (andB r f) := by
  obtain ⟨a, t⟩ := r
  obtain ⟨h1, h2⟩ := h
  have h2 : t.ltr.length ≤ s.ltr.length + c := h2
  cases a with
  | k w =>
    show Fits s (c + d) (if w = "done" then f t else (.k w, t))
    by_cases q : w = "done"
    · rw [if_pos q]
      obtain ⟨k1, k2⟩ := k t h2
      exact ⟨k1, by omega⟩
    · rw [if_neg q]
      exact ⟨(fun z => by cases z), by show t.ltr.length ≤ _; omega⟩
  | f z => exact ⟨(fun z => by cases z), by show t.ltr.length ≤ _; omega⟩
  | x => exact absurd rfl h1
theorem fits_loop {f : RS → Re × RS} {c : Nat} : ∀ (n : Nat) (s : RS), s.ltr.length + n * c ≤ 100000 → (∀ t, t.ltr.length + c ≤ 100000 → Fits t c (f t)) → Fits s (n * c) (loopB n f s)
  | 0, s, _, _ => ⟨(fun z => by cases z), by show s.ltr.length ≤ _; omega⟩
  | n + 1, s, h, k => by
    have e : (n + 1) * c = c + n * c := by rw [Nat.add_mul, Nat.one_mul, Nat.add_comm]
    rw [e] at h ⊢
    exact fits_and (k s (by omega)) fun t ht => fits_loop n t (by omega) k
mutual
theorem fitsS : ∀ (b : Sm) (s : RS), s.ltr.length + b.cst ≤ 100000 → Fits s b.cst (exS cs ms b s)
  | .set x e, s, h => fits_val (ev_ltr e s) fun i t ht => ⟨(fun z => by cases z), by show t.ltr.length ≤ _; rw [ht]; omega⟩
  | .put nm i e, s, h => fits_val (ev_ltr i s) fun j t ht => fits_val ((ev_ltr e t).trans ht) fun n u hu => by
    cases place cs nm j 0 with
    | none => exact ⟨(fun z => by cases z), by show u.ltr.length ≤ _; rw [hu]; omega⟩
    | some k => exact ⟨(fun z => by cases z), by show u.ltr.length ≤ _; rw [hu]; omega⟩
  | .later e, s, h => fits_val (ev_ltr e s) fun i t ht => by
    have h : s.ltr.length + 1 ≤ 100000 := h
    rw [if_pos (by rw [ht]; omega)]
    refine ⟨fun z => (by cases z), ?_⟩
    show (t.ltr ++ [i]).length ≤ s.ltr.length + 1
    rw [List.length_append, ht]
    exact Nat.le_refl _
  | .cond c x y, s, h => fits_val (ev_ltr c s) fun i t ht => by
    have h : s.ltr.length + (x.cst + y.cst) ≤ 100000 := h
    show Fits s (x.cst + y.cst) _
    by_cases q : i ≠ 0
    · rw [if_pos q]
      obtain ⟨h1, h2⟩ := fitsB x t (by rw [ht]; omega)
      rw [ht] at h2
      exact ⟨h1, by omega⟩
    · rw [if_neg q]
      obtain ⟨h1, h2⟩ := fitsB y t (by rw [ht]; omega)
      rw [ht] at h2
      exact ⟨h1, by omega⟩
  | .rep c x, s, h => fits_val (ev_ltr c s) fun i t ht => by
    have h : s.ltr.length + 20 * x.cst ≤ 100000 := h
    show Fits s (20 * x.cst) _
    by_cases q : i < 0 ∨ 20 < i
    · rw [if_pos q]
      exact ⟨(fun z => by cases z), by show t.ltr.length ≤ _; rw [ht]; omega⟩
    · rw [if_neg q]
      have hi : i.toNat * x.cst ≤ 20 * x.cst := Nat.mul_le_mul_right _ (by omega)
      obtain ⟨h1, h2⟩ := fits_loop (f := exB cs ms x) (c := x.cst) i.toNat t (by rw [ht]; omega) fun u hu => fitsB x u hu
      rw [ht] at h2
      exact ⟨h1, by omega⟩
  | .choose x y, s, h => by
    have h : s.ltr.length + (x.cst + y.cst) ≤ 100000 := h
    show Fits s (x.cst + y.cst) (match exB cs ms x s with | (.k w, s1) => if w = "retry" then exB cs ms y { s with rds := s1.rds } else (.k w, s1) | (.f z, s1) => (.f z, s1) | (.x, s1) => (.x, s1))
    obtain ⟨h1, h2⟩ := fitsB x s (by omega)
    cases e : exB cs ms x s with
    | mk a t =>
      rw [e] at h1 h2
      have h2 : t.ltr.length ≤ s.ltr.length + x.cst := h2
      cases a with
      | k w =>
        show Fits s (x.cst + y.cst) (if w = "retry" then exB cs ms y { s with rds := t.rds } else (.k w, t))
        by_cases q : w = "retry"
        · rw [if_pos q]
          obtain ⟨g1, g2⟩ := fitsB y { s with rds := t.rds } (show s.ltr.length + y.cst ≤ 100000 by omega)
          have g2 : _ ≤ s.ltr.length + y.cst := g2
          exact ⟨g1, by omega⟩
        · rw [if_neg q]
          exact ⟨(fun z => by cases z), by show t.ltr.length ≤ _; omega⟩
      | f z => exact ⟨(fun z => by cases z), by show t.ltr.length ≤ _; omega⟩
      | x => exact absurd rfl h1
  | .word w, s, h => ⟨(fun z => by cases z), Nat.le_add_right _ _⟩
theorem fitsB : ∀ (b : Bd) (s : RS), s.ltr.length + b.cst ≤ 100000 → Fits s b.cst (exB cs ms b s)
  | .nil, s, h => ⟨(fun z => by cases z), Nat.le_add_right _ _⟩
  | .cons a r, s, h => by
    have h : s.ltr.length + (a.cst + r.cst) ≤ 100000 := h
    exact fits_and (fitsS a s (by omega)) fun t ht => fitsB r t (by omega)
end
end
end K13

namespace K13
open PySem L2 YF NdefX
/-! ### what holds of a run's state all along -/
structure Good (ms : List Int) (J : RS → Prop) : Prop where
  rd : ∀ s k, J s → J (rd ms s k).2
  set : ∀ s x (n : Int), J s → J { s with loc := putK s.loc (.inr x : Key) (.int n) }
  put : ∀ s (k n : Int), J s → J { s with wrs := putK s.wrs (.inl k : Key) (.int n) }
  lat : ∀ s (n : Int), J s → J { s with ltr := s.ltr ++ [n] }
  cho : ∀ s t : RS, J s → J t → J { s with rds := t.rds }
section
variable {cs : List Cl} {ms : List Int} {J : RS → Prop}
theorem lk_in (g : Good ms J) {s : RS} {e : Ex} {is : List Int} (h : J s) : J (lkR cs ms s e is).2 := by
  cases e with
  | var w x =>
    cases x with
    | str x =>
      show J (match valV s.loc (.inr x : Key) with | some (.int n) => (Rz.ok n, s) | _ => (Rz.er "", s) : Rz × RS).2
      split <;> exact h
    | _ => exact h
  | cell nm a =>
    show J (match place cs nm (is.headD 0) 0 with | some k => rd ms s k | none => (Rz.er "index", s)).2
    cases place cs nm (is.headD 0) 0 with
    | none => exact h
    | some k => exact g.rd s k h
  | _ => exact h
theorem res_in (g : Good ms J) {s : RS} {e : Ex} {is : List Int} (h : J s) : J (resE (lkR cs ms) s e is).2 := by
  cases e with
  | two w a b =>
    rw [resE_two]
    by_cases q : logic w
    · rw [if_pos q]
      exact h
    · rw [if_neg q]
      cases f2 w (is.headD 0) (is.getLastD 0) <;> exact h
  | var w x => exact lk_in g (e := .var w x) h
  | cell x a => exact lk_in g (e := .cell x a) h
  | num n => exact h
  | one w a => exact h
theorem then_in {r : Rz × RS} {f : Int → RS → Rz × RS} (h : J r.2) (k : ∀ i t, J t → J (f i t).2) : J (thenE r f).2 := by
  obtain ⟨a, t⟩ := r
  cases a with
  | ok i => exact k i t h
  | er z => exact h
theorem ev_in (g : Good ms J) : ∀ {e : Ex} {s : RS}, J s → J (ev (lkR cs ms) s e).2
  | .num n, s, h => res_in g (e := .num n) h
  | .var w x, s, h => res_in g (e := .var w x) h
  | .cell x a, s, h => then_in (ev_in g (e := a) h) fun i t q => res_in g (e := .cell x a) q
  | .one w a, s, h => then_in (ev_in g (e := a) h) fun i t q => res_in g (e := .one w a) q
  | .two w a b, s, h => then_in (ev_in g (e := a) h) fun i t h2 => by
    by_cases q : dec w [i] = true
    · rw [if_pos q]
      exact res_in g (e := .two w a b) h2
    · rw [if_neg q]
      exact then_in (ev_in g (e := b) h2) fun j u h3 => res_in g (e := .two w a b) h3
theorem val_in {r : Rz × RS} {f : Int → RS → Re × RS} (h : J r.2) (k : ∀ i t, J t → J (f i t).2) : J (valE r f).2 := by
  obtain ⟨a, t⟩ := r
  cases a with
  | ok i => exact k i t h
  | er z => exact h
theorem and_in2 {r : Re × RS} {f : RS → Re × RS} (h : J r.2) (k : ∀ t, J t → J (f t).2) : J (andB r f).2 := by
  obtain ⟨a, t⟩ := r
  cases a with
  | k w =>
    show J (if w = "done" then f t else (.k w, t)).2
    by_cases q : w = "done"
    · rw [if_pos q]
      exact k t h
    · rw [if_neg q]
      exact h
  | f z => exact h
  | x => exact h
theorem loop_in {f : RS → Re × RS} (k : ∀ t, J t → J (f t).2) : ∀ (n : Nat) (s : RS), J s → J (loopB n f s).2
  | 0, s, h => h
  | n + 1, s, h => and_in2 (k s h) fun t q => loop_in k n t q
mutual
theorem exS_in (g : Good ms J) : ∀ (b : Sm) (s : RS), J s → J (exS cs ms b s).2
  | .set x e, s, h => val_in (ev_in g h) fun i t q => g.set t x i q
  | .put nm i e, s, h => val_in (ev_in g h) fun i t q => val_in (ev_in g q) fun j u q2 => by
    cases place cs nm i 0 with
    | none => exact q2
    | some k => exact g.put u k j q2
  | .later e, s, h => val_in (ev_in g h) fun i t q => by
    by_cases l : t.ltr.length < 100000
    · rw [if_pos l]
      exact g.lat t i q
    · rw [if_neg l]
      exact q
  | .cond c x y, s, h => val_in (ev_in g h) fun i t q => by
    by_cases l : i ≠ 0
    · rw [if_pos l]
      exact exB_in g x t q
    · rw [if_neg l]
      exact exB_in g y t q
  | .rep c x, s, h => val_in (ev_in g h) fun i t q => by
    by_cases l : i < 0 ∨ 20 < i
    · rw [if_pos l]
      exact q
    · rw [if_neg l]
      exact loop_in (fun t q => exB_in g x t q) _ _ q
  | .choose x y, s, h => by
    have hx := exB_in g x s h
    show J (match exB cs ms x s with | (.k w, s1) => if w = "retry" then exB cs ms y { s with rds := s1.rds } else (.k w, s1) | (.f z, s1) => (.f z, s1) | (.x, s1) => (.x, s1)).2
    cases e : exB cs ms x s with
    | mk a t =>
      rw [e] at hx
      cases a with
      | k w =>
        show J (if w = "retry" then exB cs ms y { s with rds := t.rds } else (.k w, t)).2
        by_cases q : w = "retry"
        · rw [if_pos q]
          exact exB_in g y _ (g.cho s t h hx)
        · rw [if_neg q]
          exact hx
      | f z => exact hx
      | x => exact hx
  | .word w, s, h => h
theorem exB_in (g : Good ms J) : ∀ (b : Bd) (s : RS), J s → J (exB cs ms b s).2
  | .nil, s, h => h
  | .cons a r, s, h => and_in2 (exS_in g a s h) fun t q => exB_in g r t q
end
end
/-- no block ends by the word fault -/
def NoF (r : Re × RS) : Prop := r.1 ≠ .k "fault"
theorem val_nf {r : Rz × RS} {f : Int → RS → Re × RS} (k : ∀ i t, NoF (f i t)) : NoF (valE r f) := by
  obtain ⟨a, t⟩ := r
  cases a with
  | ok i => exact k i t
  | er z => exact fun h => nomatch h
theorem and_nf {r : Re × RS} {f : RS → Re × RS} (h : NoF r) (k : ∀ t, NoF (f t)) : NoF (andB r f) := by
  obtain ⟨a, t⟩ := r
  cases a with
  | k w =>
    show NoF (if w = "done" then f t else (.k w, t))
    by_cases q : w = "done"
    · rw [if_pos q]
      exact k t
    · rw [if_neg q]
      exact h
  | f z => exact fun h => nomatch h
  | x => exact fun h => nomatch h
theorem done_nf {s : RS} : NoF (.k "done", s) := fun h => absurd (Re.k.inj h) (by decide +kernel)
theorem loop_nf {f : RS → Re × RS} (k : ∀ t, NoF (f t)) : ∀ (n : Nat) (s : RS), NoF (loopB n f s)
  | 0, s => done_nf
  | n + 1, s => and_nf (k s) fun t => loop_nf k n t
section
variable {cs : List Cl} {ms : List Int} {names : List Str}
mutual
theorem exS_nf : ∀ (b : Sm) (s : RS), b.ok names → NoF (exS cs ms b s)
  | .set x e, s, _ => val_nf fun i t => done_nf
  | .put nm i e, s, _ => val_nf fun i t => val_nf fun j u => by
    cases place cs nm i 0 with
    | none => exact fun h => nomatch h
    | some k => exact done_nf
  | .later e, s, _ => val_nf fun i t => by
    by_cases l : t.ltr.length < 100000
    · rw [if_pos l]
      exact done_nf
    · rw [if_neg l]
      exact fun h => nomatch h
  | .cond c x y, s, ok => val_nf fun i t => by
    by_cases l : i ≠ 0
    · rw [if_pos l]
      exact exB_nf x t ok.2.1
    · rw [if_neg l]
      exact exB_nf y t ok.2.2
  | .rep c x, s, ok => val_nf fun i t => by
    by_cases l : i < 0 ∨ 20 < i
    · rw [if_pos l]
      exact fun h => nomatch h
    · rw [if_neg l]
      exact loop_nf (fun t => exB_nf x t ok.2) _ _
  | .choose x y, s, ok => by
    have hx := exB_nf x s ok.1
    show NoF (match exB cs ms x s with | (.k w, s1) => if w = "retry" then exB cs ms y { s with rds := s1.rds } else (.k w, s1) | (.f z, s1) => (.f z, s1) | (.x, s1) => (.x, s1))
    cases e : exB cs ms x s with
    | mk a t =>
      rw [e] at hx
      cases a with
      | k w =>
        show NoF (if w = "retry" then exB cs ms y { s with rds := t.rds } else (.k w, t))
        by_cases q : w = "retry"
        · rw [if_pos q]
          exact exB_nf y _ ok.2
        · rw [if_neg q]
          exact hx
      | f z => exact fun h => nomatch h
      | x => exact fun h => nomatch h
  | .word w, s, ok => fun h => by
    have ok : w ∈ (["retry", "undo"] : List Str) := ok
    rw [Re.k.inj h] at ok
    exact absurd ok (by decide +kernel)
theorem exB_nf : ∀ (b : Bd) (s : RS), b.ok names → NoF (exB cs ms b s)
  | .nil, s, _ => done_nf
  | .cons a r, s, ok => and_nf (exS_nf a s ok.1) fun t => exB_nf r t ok.2
end
end
/-- the locals' values are ints -/
def LocI (s : RS) : Prop := ∀ v ∈ s.loc.map (·.2), ∃ n : Int, v = .int n
theorem putK_vals {l : Kv} {k : Key} {v u : V} (h : u ∈ (putK l k v).map (·.2)) : u = v ∨ u ∈ l.map (·.2) := by
  obtain ⟨q, hq, rfl⟩ := List.mem_map.mp h
  unfold putK at hq
  split at hq
  · obtain ⟨r, hr, e⟩ := List.mem_map.mp hq
    by_cases z : r.1 = k
    · left
      rw [← e]
      simp [z]
    · right
      rw [← e]
      simp only [z, if_false]
      exact List.mem_map_of_mem hr
  · rcases List.mem_append.mp hq with m | m
    · exact .inr (List.mem_map_of_mem m)
    · left
      rw [List.mem_singleton.mp m]
theorem good_loc (ms : List Int) : Good ms LocI where
  rd := fun s k h => by
    unfold rd
    split <;> exact h
  set := fun s x n h v hv => by
    rcases putK_vals hv with e | m
    · exact ⟨n, e⟩
    · exact h v m
  put := fun s k n h => h
  lat := fun s n h => h
  cho := fun s t h _ => h
/-- what was read is what the memory has -/
def RdM (ms : List Int) (s : RS) : Prop := ∀ (k : Int) (v : V), valV s.rds (.inl k : Key) = some v → v = .int (ms.getD k.toNat 0)
theorem good_rd (ms : List Int) : Good ms (RdM ms) where
  rd := fun s k h => by
    unfold rd
    split
    · exact h
    · intro j v e
      have e : valV (putK s.rds (.inl k : Key) (.int (ms.getD k.toNat 0))) (.inl j : Key) = some v := e
      rw [valV_put] at e
      by_cases z : (.inl j : Key) = .inl k
      · rw [if_pos z] at e
        cases e
        rw [Sum.inl.inj z]
      · rw [if_neg z] at e
        exact h j v e
  set := fun s x n h => h
  put := fun s k n h => h
  lat := fun s n h => h
  cho := fun s t _ h => h
end K13

namespace K13
open PySem L2 YF YG NdefX
/-! ### outcomes are compared -/
structure FlatO (o : OutC) : Prop where
  rds : ∀ p ∈ o.rds, valV o.rds p.1 = some p.2 ∧ flatB p.2 = true
  wrs : ∀ p ∈ o.wrs, valV o.wrs p.1 = some p.2 ∧ flatB p.2 = true
  fin : ∀ v ∈ o.fin, flatB v = true
  ltr : ∀ v ∈ o.ltr, flatB v = true
  rv : flatB o.rv = true
theorem NumD.flat {N : Nat} {l : Kv} (h : NumD N l) : ∀ p ∈ l, valV l p.1 = some p.2 ∧ flatB p.2 = true := by
  obtain ⟨js, rfl, nd, hq⟩ := h
  clear hq
  induction js with
  | nil => exact fun p hp => nomatch hp
  | cons q r ih =>
    intro p hp
    have nd := List.nodup_cons.mp (show (q.1 :: r.map (·.1)).Nodup from nd)
    rcases List.mem_cons.mp (show p ∈ mkN q :: r.map mkN from hp) with e | m
    · rw [e]
      exact ⟨valV_pos rfl, rfl⟩
    · obtain ⟨i1, i2⟩ := ih nd.2 p m
      refine ⟨?_, i2⟩
      refine (valV_neg fun z => ?_).trans i1
      obtain ⟨u, hu, rfl⟩ := List.mem_map.mp m
      have z : (mkN q).1 = (mkN u).1 := z
      have z2 : (q.1 : Int) = (u.1 : Int) := Sum.inl.inj z
      exact nd.1 (List.mem_map.mpr ⟨u, hu, by omega⟩)
theorem eq_list {K : PySem.W.Frag} {H : Hp} {n : Nat} : ∀ {xs : List V}, (∀ v ∈ xs, flatB v = true) → Paired (EqV K H (n + 1)) xs xs
  | [], _ => .nil
  | x :: xs, h => .cons (.inl ⟨rfl, h x List.mem_cons_self⟩) (eq_list fun v m => h v (List.mem_cons_of_mem _ m))
section
variable {P : Program} {w : World} {K : PySem.W.Frag} {mg : Str → Option Value} {base : Heap} {A : Adr}
def spAll (A : Adr) : Sp := fun vs H Q _ => ∃ (x dx a b f l : Addr) (kd : Str) (rv : V), vs = [.ref x] ∧ H x = some (.ins A.a_Outcome dx (fldO kd a b f l rv)) ∧ ∀ q, H q = none → Q (.ref q) (upd H q (.lst [.str kd, .ref a, .ref b, .ref f, .ref l, rv]))
theorem ok_all_of (T : Txt K mg A) : FnOk P w K mg base CX0 1 A.a__all_of A.d__all_of ["outcome"] (spAll A) := by
  refine T.F__all_of.ok sc_all_of (fun vs H Q E ⟨_, _, _, _, _, _, _, _, e, _⟩ => by rw [e]; rfl) (fun cdv A' outer s0 H vs Q E hr h => ?_)
  obtain ⟨x, dx, a, b, f, l, kd, rv, rfl, hx, k⟩ := h
  refine ⟨_, pss_one (ps_ret (pe_lst (pa_cons (pe_fld (pv 0) rfl) (pa_cons (pe_fld (pv 0) rfl) (pa_cons (pe_fld (pv 0) rfl) (pa_cons (pe_fld (pv 0) rfl) (pa_cons (pe_fld (pv 0) rfl) (pa_cons (pe_fld (pv 0) rfl) pa_nil)))))))), ?_⟩
  refine ret_un (lstd_un ((ta_cons (te_fld (te_var rfl) hx T.cl_Outcome T.no_Outcome_kind rfl) (ta_cons (te_fld (te_var rfl) hx T.cl_Outcome T.no_Outcome_reads rfl) (ta_cons (te_fld (te_var rfl) hx T.cl_Outcome T.no_Outcome_writes rfl) (ta_cons (te_fld (te_var rfl) hx T.cl_Outcome T.no_Outcome_finals rfl) (ta_cons (te_fld (te_var rfl) hx T.cl_Outcome T.no_Outcome_later rfl) (ta_cons (te_fld (te_var rfl) hx T.cl_Outcome T.no_Outcome_reason rfl) ta_nil)))))) _ ⟨(show 6 ≤ sizeLine by decide), k⟩))
def spSameO (A : Adr) : Sp := fun vs H Q _ => ∃ (x y : Addr) (o : OutC), vs = [.ref x, .ref y] ∧ OutAt A H x o ∧ OutAt A H y o ∧ FlatO o ∧ ∀ H', Same H H' → Q (.bl true) H'
theorem ok_same_outcome (T : Txt K mg A) : FnOk P w K mg base CX0 2 A.a_same_outcome A.d_same_outcome ["outcome", "other"] (spSameO A) := by
  refine T.F_same_outcome.ok sc_same_outcome (fun vs H Q E ⟨_, _, _, e, _⟩ => by rw [e]; rfl) (fun cdv A' outer s0 H vs Q E hr h => ?_)
  obtain ⟨x, y, o, rfl, ⟨dx, a, b, f, l, hx, h1, h2, h3, h4⟩, ⟨dy, a', b', f', l', hy, g1, g2, g3, g4⟩, fl, k⟩ := h
  refine ⟨_, pss_one (ps_ret (pe_cmpR (op_eqV hr.units) (pe_call (ok_all_of T) (hr.mono (by decide)) rfl T.g__all_of T.F__all_of.kp T.b__all_of .nil pass0 (pa_cons (pv 0) pa_nil)) (pe_call (ok_all_of T) (hr.mono (by decide)) rfl T.g__all_of T.F__all_of.kp T.b__all_of .nil pass0 (pa_cons (pv 1) pa_nil)) (nomark _))), ?_⟩
  refine ret_un (op_un (call_un ((ta_cons (te_var rfl) ta_nil) _ ⟨x, dx, a, b, f, l, o.kd, o.rv, rfl, hx, fun p hp => ?_⟩)))
  have s1 : Same H (upd H p (.lst [.str o.kd, .ref a, .ref b, .ref f, .ref l, o.rv])) := Same.upd hp
  refine call_un ((ta_cons (te_var rfl) ta_nil) _ ⟨y, dy, a', b', f', l', o.kd, o.rv, rfl, s1 _ _ hy, fun q hq => ?_⟩)
  have s2 := s1.trans (Same.upd (o := .lst [.str o.kd, .ref a', .ref b', .ref f', .ref l', o.rv]) hq)
  have ep : (upd (upd H p (.lst [.str o.kd, .ref a, .ref b, .ref f, .ref l, o.rv])) q (.lst [.str o.kd, .ref a', .ref b', .ref f', .ref l', o.rv])) p = some (.lst [.str o.kd, .ref a, .ref b, .ref f, .ref l, o.rv]) := Same.upd hq _ _ upd_same
  refine ⟨2, by decide, .inl ⟨p, q, _, _, rfl, rfl, SqL.of ep, SqL.of upd_same, ?_⟩, k _ s2⟩
  have dk : ∀ {u v : Addr} {kv : Kv}, H u = some (.dK kv) → H v = some (.dK kv) → (∀ p ∈ kv, valV kv p.1 = some p.2 ∧ flatB p.2 = true) → EqV K (upd (upd H p (.lst [.str o.kd, .ref a, .ref b, .ref f, .ref l, o.rv])) q (.lst [.str o.kd, .ref a', .ref b', .ref f', .ref l', o.rv])) 2 (.ref u) (.ref v) :=
    fun {u v kv} hu hv ok => .inr (.inr (.inr ⟨u, v, kv, kv, rfl, rfl, s2 _ _ hu, s2 _ _ hv, rfl, fun p hp => ⟨p.2, (ok p hp).1, .inl ⟨rfl, (ok p hp).2⟩⟩⟩))
  have lk : ∀ {u v : Addr} {xs : List V}, H u = some (.lst xs) → H v = some (.lst xs) → (∀ x ∈ xs, flatB x = true) → EqV K (upd (upd H p (.lst [.str o.kd, .ref a, .ref b, .ref f, .ref l, o.rv])) q (.lst [.str o.kd, .ref a', .ref b', .ref f', .ref l', o.rv])) 2 (.ref u) (.ref v) :=
    fun {u v xs} hu hv ok => .inr (.inr (.inl ⟨u, v, xs, xs, rfl, rfl, SqL.of (s2 _ _ hu), SqL.of (s2 _ _ hv), eq_list ok⟩))
  exact .cons (.inl ⟨rfl, rfl⟩) (.cons (dk h1 g1 fl.rds) (.cons (dk h2 g2 fl.wrs) (.cons (lk h3 g3 fl.fin) (.cons (lk h4 g4 fl.ltr) (.cons (.inl ⟨rfl, fl.rv⟩) .nil)))))
end
end K13

namespace K13
open PySem L2 YF
/-! ### the draws -/
/-- a list of ints, short -/
def RowN (H : Hp) (p : Addr) (n : Nat) : Prop := ∃ ns : List Int, H p = some (.lst (ns.map V.int)) ∧ ns.length ≤ n
def Row (H : Hp) (p : Addr) : Prop := ∃ ns : List Int, H p = some (.lst (ns.map V.int))
def ntb : Option HO → Option HO
  | some (.tbl _) => none
  | o => o
/-- what stays while the objects at X are used: no table -/
def kp (X : List Addr) (H : Hp) : Hp := fun b => if b ∈ X then none else ntb (H b)
theorem kp_same {X : List Addr} {b : Addr} {H : Hp} (h : b ∈ X) : kp X H b = none := if_pos h
theorem kp_ne {X : List Addr} {b : Addr} {H : Hp} (h : b ∉ X) : kp X H b = ntb (H b) := if_neg h
theorem kp_some {X : List Addr} {b : Addr} {H : Hp} {o : HO} (h : kp X H b = some o) : b ∉ X ∧ H b = some o ∧ ∀ ps, o ≠ .tbl ps := by
  by_cases e : b ∈ X
  · rw [kp_same e] at h
    cases h
  · rw [kp_ne e] at h
    refine ⟨e, ?_⟩
    cases q : H b with
    | none =>
      rw [q] at h
      cases h
    | some u =>
      rw [q] at h
      cases u <;> first | (cases h; exact ⟨rfl, fun ps z => by cases z⟩) | cases h
theorem kp_at {X : List Addr} {b : Addr} {H : Hp} {o : HO} (h : H b = some o) (e : b ∉ X) (n : ∀ ps, o ≠ .tbl ps) : kp X H b = some o := by
  rw [kp_ne e, h]
  cases o <;> first | rfl | exact absurd rfl (n _)
theorem kp_sub {X : List Addr} {H : Hp} : Same (kp X H) H := fun _ _ h => (kp_some h).2.1
structure Stay (p : Addr) (H H' : Hp) : Prop where
  all : ∀ b o, b ≠ p → H b = some o → H' b = some o
theorem Stay.same {p : Addr} {X : List Addr} {H H' : Hp} (s : Stay p H H') (m : p ∈ X) : Same (kp X H) H' := fun b o h => s.all b o (fun z => (kp_some h).1 (by rw [z]; exact m)) (kp_some h).2.1
theorem Stay.kp {p : Addr} {X : List Addr} {H H' : Hp} (s : Stay p H H') (m : p ∈ X) : Same (kp X H) (kp X H') := fun b o h => kp_at (s.same m b o h) (kp_some h).1 (kp_some h).2.2
theorem Stay.refl {p : Addr} {H : Hp} : Stay p H H := ⟨fun _ _ _ h => h⟩
theorem Stay.trans {p : Addr} {H H1 H2 : Hp} (s : Stay p H H1) (t : Stay p H1 H2) : Stay p H H2 := ⟨fun b o n h => t.all b o n (s.all b o n h)⟩
theorem Stay.of {p : Addr} {H H' : Hp} (s : Same H H') : Stay p H H' := ⟨fun b o _ h => s b o h⟩
theorem Stay.updp {p : Addr} {H H' : Hp} {o : HO} (s : Stay p H H') : Stay p H (upd H' p o) := ⟨fun b u n h => by
  rw [upd_ne n]
  exact s.all b u n h⟩
theorem Stay.new {p a : Addr} {H H' : Hp} {o : HO} (s : Stay p H H') (h : H' a = none) : Stay p H (upd H' a o) := ⟨fun b u n q => by
  have e := s.all b u n q
  rw [upd_ne (ne_of_none e h)]
  exact e⟩
section
variable {P : Program} {w : World} {K : PySem.W.Frag} {mg : Str → Option Value} {base : Heap} {A : Adr}
theorem te_mod {σ : L2.St} {H : Hp} {ta tb : TE} {i j : Int} (ha : Te ta σ H (.int i)) (hb : Te tb σ H (.int j)) (h : 0 < j) : Te (tOp (rI (fun _ j => 0 < j) fun i j => .int (i % j)) ta tb) σ H (.int (i % j)) := te_i (C := fun _ j => 0 < j) (g := fun i j => .int (i % j)) ha hb h
def spMix : Sp := fun vs H Q _ => ∃ n k : Int, vs = [.int n, .int k] ∧ ∀ r, Q (.int r) H
theorem ok_law_mix (T : Txt K mg A) : FnOk P w K mg base CX0 1 A.a__law_mix A.d__law_mix ["number", "k"] spMix := by
  refine T.F__law_mix.ok sc_law_mix (fun vs H Q E ⟨_, _, e, _⟩ => by rw [e]; rfl) (fun cdv A' outer s H vs Q E hr h => ?_)
  obtain ⟨n, k, rfl, q⟩ := h
  refine ⟨_, pss_one (ps_ret (pe_op op_mod (pe_op op_mul (pe_op op_mod (pe_callTy call_int1 (by rfl) T.n_int (by decide +kernel) (pa_cons (pe_op op_mul (pe_op op_add (pe_op op_add (pe_op op_mod (pe_callTy call_int1 (by rfl) T.n_int (by decide +kernel) (pa_cons (pv 0) pa_nil)) (pe_int)) (pe_op op_mul (pe_int) (pv 1))) (pe_int)) (pe_int)) pa_nil)) (pe_int)) (pe_int)) (pe_int))), ?_⟩
  have c1 : (0 : Int) < 1000003 := by decide
  have c2 : (0 : Int) < 1000033 := by decide
  have c3 : (0 : Int) < 998244353 := by decide
  have cr : ∀ {i j : Int}, -18446744073709551616 < j → j < 18446744073709551616 → CMul i j := fun h h2 => .inr ⟨by omega, by omega⟩
  have cl : ∀ {i j : Int}, -18446744073709551616 < i → i < 18446744073709551616 → CMul i j := fun h h2 => .inl ⟨by omega, by omega⟩
  have k1 : ∀ {i : Int}, CMul i 48271 := fun {i} => cr (by decide) (by decide)
  have k2 : ∀ {i : Int}, CMul i 16807 := fun {i} => cr (by decide) (by decide)
  have k3 : ∀ {i : Int}, CMul 7919 i := fun {i} => cl (by decide) (by decide)
  exact te_mod (te_i (te_mod (te_int1 (te_i (te_i0 (te_i0 (te_mod (te_int1 (te_var rfl)) te_c c1) (te_i te_c (te_var rfl) k3)) te_c) te_c k1)) te_c c2) te_c k2) te_c c3 _ (q _)
theorem te_mix {σ : L2.St} {H : Hp} {ta : TA} {n k : Int} {E : XK} {Q : VK} (ha : Ta ta σ H [.int n, .int k]) (q : ∀ r, Q (.int r) H) : tCall spMix [] E ta σ H Q := ha _ ⟨n, k, rfl, q⟩
theorem te_mix2 {σ : L2.St} {H : Hp} {ta : TA} {n k j : Int} {E E' : XK} {Q : VK} (ha : Ta ta σ H [.int n, .int k]) (q : ∀ r, Q (.int r) H) : tCall spMix [] E (tCons (tCall spMix [] E' ta) (tCons (tC (.int j)) tNil)) σ H Q := ha _ ⟨n, k, rfl, fun r => ⟨r, j, rfl, q⟩⟩
def spTake : Sp := fun vs H Q _ => ∃ (p : Addr) (m : Int), vs = [.ref p, .int m] ∧ Row H p ∧ 0 < m ∧ m < 1000000 ∧ ∀ r H', 0 ≤ r → r < m → Stay p H H' → Row H' p → Q (.int r) H'
theorem ok_law_take (T : Txt K mg A) : FnOk P w K mg base CX0 1 A.a__law_take A.d__law_take ["row", "bound"] spTake := by
  refine T.F__law_take.ok sc_law_take (fun vs H Q E ⟨_, _, e, _⟩ => by rw [e]; rfl) (fun cdv A' outer s H vs Q E hr h => ?_)
  obtain ⟨p, m, rfl, ⟨ns, hp⟩, m0, m1, q⟩ := h
  refine ⟨_, pss_cons (ps_if (pt_not (pt_truth (pv 0) (by intro _; rfl)))
  (pss_one (ps_ret (pe_int)))
  (pss_nil))
  (pss_one (ps_ret (pe_op op_mod (pe_callTy call_int1 (by rfl) T.n_int (by decide +kernel) (pa_cons (pe_bm0 PySem.F.plainAttrs_list PySem.F.slot_list_pop PySem.F.type_list_pop mt_pop (pv 0)) pa_nil)) (pv 1)))), ?_⟩
  refine if_seq (b := !(!ns.isEmpty)) (tt_not fun Q q => ⟨_, rfl, _, .inl ⟨_, SqL.of hp, by rw [List.isEmpty_map]⟩, q⟩) (fun _ => ret_te te_c (q 0 H (Int.le_refl 0) m0 .refl ⟨ns, hp⟩)) fun h => ?_
  have h : ns ≠ [] := by simpa using h
  have hl : 0 < ns.length := List.length_pos_iff.mpr h
  refine ⟨_, rfl, .inl ⟨rfl, _, SqL.of hp⟩, p, _, .int (ns[ns.length - 1]'(by omega)), rfl, rfl, hp, by rw [List.length_map, List.getElem?_map, List.getElem?_eq_getElem (by omega)]; rfl, ?_⟩
  refine .inl ⟨_, rfl, _, rfl, _, _, rfl, rfl, m0, q _ _ (Int.emod_nonneg _ (by omega)) (Int.emod_lt_of_pos _ m0) (Stay.refl.updp) ⟨ns.dropLast, ?_⟩⟩
  rw [upd_same, List.map_dropLast]
theorem go_take {σ : L2.St} {H : Hp} {ta : TA} {p : Addr} {m : Int} {E : XK} {Q : VK} (ha : Ta ta σ H [.ref p, .int m]) (r : Row H p) (k : ∀ r H', 0 ≤ r → r < m → Stay p H H' → Row H' p → Q (.int r) H') (h0 : 0 < m := by decide) (h1 : m < 1000000 := by decide) : tCall spTake [] E ta σ H Q :=
  ha _ ⟨p, m, rfl, r, h0, h1, k⟩
def spNumber : Sp := fun vs H Q _ => ∃ p : Addr, vs = [.ref p] ∧ Row H p ∧ ∀ n H', InR n → Stay p H H' → Row H' p → Q (.int n) H'
theorem ok_law_number (T : Txt K mg A) : FnOk P w K mg base CX0 2 A.a__law_number A.d__law_number ["row"] spNumber := by
  refine T.F__law_number.ok sc_law_number (fun vs H Q E ⟨_, e, _⟩ => by rw [e]; rfl) (fun cdv A' outer s H vs Q E hr h => ?_)
  obtain ⟨p, rfl, hp, q⟩ := h
  refine ⟨_, pss_cons (ps_set (i := 1) sc_law_number.nd rfl (Or.inl rfl) (pe_call (ok_law_take T) (hr.mono (by decide)) rfl T.g__law_take T.F__law_take.kp T.b__law_take .nil pass0 (pa_cons (pv 0) (pa_cons (pe_int) pa_nil))))
  (pss_cons (ps_if (pt_cmpR op_lt (pv 1) (pe_int) (nomark _))
  (pss_one (ps_ret (pe_op op_sub (pe_call (ok_law_take T) (hr.mono (by decide)) rfl T.g__law_take T.F__law_take.kp T.b__law_take .nil pass0 (pa_cons (pv 0) (pa_cons (pe_int) pa_nil))) (pe_int))))
  (pss_nil))
  (pss_cons (ps_if (pt_cmpR op_eq (pv 1) (pe_int) (nomark _))
  (pss_one (ps_ret (pe_op op_sub (pe_call (ok_law_take T) (hr.mono (by decide)) rfl T.g__law_take T.F__law_take.kp T.b__law_take .nil pass0 (pa_cons (pv 0) (pa_cons (pe_int) pa_nil))) (pe_int))))
  (pss_nil))
  (pss_one (ps_ret (pe_ix ix_list (pe_lst (pa_cons (pe_int) (pa_cons (pe_un un_neg pe_int) (pa_cons (pe_int) (pa_cons (pe_int) pa_nil))))) (pe_call (ok_law_take T) (hr.mono (by decide)) rfl T.g__law_take T.F__law_take.kp T.b__law_take .nil pass0 (pa_cons (pv 0) (pa_cons (pe_int) pa_nil))) (fun _ _ => rfl)))))), ?_⟩
  refine go_take (m := 12) (ta_cons (te_var rfl) (ta_cons te_c ta_nil)) hp fun c H1 c0 c1 s1 r1 => ?_
  dsimp only
  refine set_sl (σ' := [some (.ref p), some (.int c)]) rfl ?_
  refine if_seq (tt_test (te_i0 (te_var rfl) te_c)) (fun h => ?_) fun h => ?_
  · refine go_take (m := 6) (ta_cons (te_var rfl) (ta_cons te_c ta_nil)) r1 fun c H2 d0 d1 s2 r2 => ?_
    exact ⟨_, _, rfl, rfl, q _ H2 ⟨by omega, by omega⟩ (s1.trans s2) r2⟩
  refine if_seq (tt_test (te_eq (te_var rfl) te_c rfl)) (fun h2 => ?_) fun h2 => ?_
  · refine go_take (m := 60) (ta_cons (te_var rfl) (ta_cons te_c ta_nil)) r1 fun c H2 d0 d1 s2 r2 => ?_
    exact ⟨_, _, rfl, rfl, q _ H2 ⟨by omega, by omega⟩ (s1.trans s2) r2⟩
  · refine ⟨_, rfl, by show 4 ≤ sizeLine; decide, fun a ha => ?_⟩
    have hpa : p ≠ a := by
      obtain ⟨ns, e⟩ := r1
      exact ne_of_none e ha
    have r1' : Row (upd H1 a (.lst [.int 1000000000, .int (-1000000000), .int 40000, .int 31623])) p := by
      obtain ⟨ns, e⟩ := r1
      exact ⟨ns, by rw [upd_ne hpa]; exact e⟩
    refine go_take (m := 4) (ta_cons (te_var rfl) (ta_cons te_c ta_nil)) r1' fun c H2 d0 d1 s2 r2 => ?_
    have hx : SqL K H2 a [.int 1000000000, .int (-1000000000), .int 40000, .int 31623] := SqL.of (s2.all _ _ hpa.symm upd_same)
    have s3 : Stay p H H2 := (s1.new ha).trans s2
    have c4 : c = 0 ∨ c = 1 ∨ c = 2 ∨ c = 3 := by omega
    rcases c4 with rfl | rfl | rfl | rfl <;> exact ⟨a, _, _, _, rfl, rfl, hx, rfl, q _ H2 ⟨by decide, by decide⟩ s3 r2⟩
/-! ### the row -/
theorem cut_to {xs : List V} (n : Nat) : cutV xs none (some (n : Int)) = xs.take n := by
  unfold cutV
  have e1 : HT.sIx xs.length xs.length (some (n : Int)) = min n xs.length := by
    unfold HT.sIx
    dsimp only
    rw [if_neg (by omega)]
    omega
  have e2 : HT.sIx xs.length 0 none = 0 := rfl
  rw [e1, e2]
  simp [List.take_eq_take_iff]
def spNumbers (K : PySem.W.Frag) : Sp := fun vs H Q _ => ∃ (a : Addr) (ns : List Int) (n : Int), vs = [.ref a, .int n] ∧ SqL K H a (ns.map V.int) ∧ 0 ≤ n ∧ n ≤ 1000 ∧ ∀ p H', H p = none → Same H H' → Row H' p → Q (.ref p) H'
theorem RowN.snoc {H : Hp} {p : Addr} {n : Nat} (h : RowN H p n) (x : Int) {Q : Prop} (hn : n < 100000) (k : ∀ ns, H p = some (.lst ns) → ns.length < sizeLine → RowN (upd H p (.lst (ns ++ [.int x]))) p (n + 1) → Q) : Q := by
  obtain ⟨ns, e, l⟩ := h
  refine k _ e (by rw [List.length_map, sizeLine_eq]; omega) ⟨ns ++ [x], ?_, ?_⟩
  · rw [upd_same, List.map_append]
    rfl
  · rw [List.length_append]
    simp only [List.length_cons, List.length_nil]
    omega
theorem ok_law_numbers (T : Txt K mg A) : FnOk P w K mg base CX0 2 A.a__law_numbers A.d__law_numbers ["script", "count"] (spNumbers K) := by
  refine T.F__law_numbers.ok sc_law_numbers (fun vs H Q E ⟨_, _, _, e, _⟩ => by rw [e]; rfl) (fun cdv A' outer s0 H vs Q E hr h => ?_)
  obtain ⟨a, ns, n, rfl, hS, n0, n1, k⟩ := h
  refine ⟨_, pss_cons (ps_set (i := 2) sc_law_numbers.nd rfl (Or.inl rfl) (pe_lst pa_nil))
  (pss_cons (ps_set (i := 3) sc_law_numbers.nd rfl (Or.inl rfl) (pe_int))
  (pss_cons (ps_for PassesOwn.never rfl (pi_list (pe_slice sl_list (pv 0) (po_none) (po_some (pe_int)))) (pg_name (i := 4) sc_law_numbers.nd rfl (Or.inl rfl))
  (pss_cons (ps_set (i := 3) sc_law_numbers.nd rfl (Or.inl rfl) (pe_op op_add (pv 3) (pv 4)))
  (pss_one (ps_if (pt_cmpR op_ge (pv 4) (pe_int) (nomark _))
  (pss_cons (ps_set (i := 5) sc_law_numbers.nd rfl (Or.inl rfl) (pv 4))
  (pss_one (ps_for PassesOwn.never rfl (pi_range1 (by rfl) T.n_range (pa_cons (pe_int) pa_nil)) (pg_name (i := 6) sc_law_numbers.nd rfl (Or.inl rfl))
  (pss_cons (ps_expr (pe_bm PySem.F.plainAttrs_list PySem.F.slot_list_append PySem.F.type_list_append mt_append (pv 2) (pa_cons (pe_op op_mod (pe_callTy call_int1 (by rfl) T.n_int (by decide +kernel) (pa_cons (pv 5) pa_nil)) (pe_int)) pa_nil)))
  (pss_cons (ps_set (i := 5) sc_law_numbers.nd rfl (Or.inl rfl) (pe_op op_fdiv (pv 5) (pe_int)))
  (pss_one (ps_if (pt_cmpR op_eq (pv 5) (pe_int) (nomark _))
  (pss_one (ps_break))
  (pss_nil))))))))
  (pss_one (ps_expr (pe_bm PySem.F.plainAttrs_list PySem.F.slot_list_append PySem.F.type_list_append mt_append (pv 2) (pa_cons (pe_call (ok_law_mix T) (hr.mono (by decide)) rfl T.g__law_mix T.F__law_mix.kp T.b__law_mix .nil pass0 (pa_cons (pe_call (ok_law_mix T) (hr.mono (by decide)) rfl T.g__law_mix T.F__law_mix.kp T.b__law_mix .nil pass0 (pa_cons (pv 4) (pa_cons (pe_int) pa_nil))) (pa_cons (pe_int) pa_nil))) pa_nil))))))))
  (pss_cons (ps_for PassesOwn.never rfl (pi_range1 (by rfl) T.n_range (pa_cons (pv 1) pa_nil)) (pg_name (i := 6) sc_law_numbers.nd rfl (Or.inl rfl))
  (pss_one (ps_expr (pe_bm PySem.F.plainAttrs_list PySem.F.slot_list_append PySem.F.type_list_append mt_append (pv 2) (pa_cons (pe_call (ok_law_mix T) (hr.mono (by decide)) rfl T.g__law_mix T.F__law_mix.kp T.b__law_mix .nil pass0 (pa_cons (pe_call (ok_law_mix T) (hr.mono (by decide)) rfl T.g__law_mix T.F__law_mix.kp T.b__law_mix .nil pass0 (pa_cons (pe_op op_add (pv 3) (pe_op op_mul (pe_int) (pv 6))) (pa_cons (pe_op op_add (pe_int) (pv 6)) pa_nil))) (pa_cons (pe_int) pa_nil))) pa_nil)))))
  (pss_cons (ps_expr (pe_bm0 PySem.F.plainAttrs_list PySem.F.slot_list_reverse PySem.F.type_list_reverse mt_reverse (pv 2)))
  (pss_one (ps_ret (pv 2))))))), ?_⟩
  refine ⟨Nat.zero_le _, fun p hp => ?_⟩
  dsimp only [gName]
  refine asg_te (v := .int 0) te_c ?_
  refine set_sl (σ' := [some (.ref a), some (.int n), some (.ref p), some (.int 0), none, none, none]) rfl ?_
  have s1 : Same H (upd H p (.lst [])) := Same.upd hp
  have u1 : RowN (upd H p (.lst [])) p 0 := ⟨[], upd_same, Nat.le_refl _⟩
  generalize upd H p (HO.lst []) = H1 at s1 u1 ⊢
  obtain ⟨L, eL⟩ : ∃ L : List Int, L = ns.take 63 := ⟨_, rfl⟩
  have hc : cutV (ns.map V.int) none (some 63) = L.map V.int := by
    rw [eL, List.map_take]
    exact cut_to 63
  have hL : L.length ≤ 63 := by
    rw [eL, List.length_take]
    omega
  refine ⟨_, rfl, _, rfl, a, _, rfl, Same.sqL s1 hS, fun q hq => ?_⟩
  rw [hc]
  have npq : p ≠ q := by
    obtain ⟨ns, e, _⟩ := u1
    exact ne_of_none e hq
  have s2 : Same H (upd H1 q (.lst (L.map V.int))) := s1.trans (Same.upd hq)
  have u2 : RowN (upd H1 q (.lst (L.map V.int))) p 0 := by
    obtain ⟨ns, e, l⟩ := u1
    exact ⟨ns, by rw [upd_ne npq]; exact e, l⟩
  have uq : (upd H1 q (.lst (L.map V.int))) q = some (.lst (L.map V.int)) := upd_same
  generalize upd H1 q (HO.lst (L.map V.int)) = H2 at s2 u2 uq ⊢
  obtain ⟨W, hW⟩ : ∃ W : Nat → Hp → Prop, W = fun m H' => Same H H' ∧ RowN H' p m ∧ H' q = some (.lst (L.map V.int)) := ⟨_, rfl⟩
  have app : ∀ {te : TE} {σ : L2.St} {D : Ends} {m : Nat} {H' : Hp}, σ[2]? = some (some (.ref p)) → W m H' → m < 100000 → (∀ Q : VK, (∀ r, Q (.int r) H') → te σ H' Q) → (∀ H3, W (m + 1) H3 → D.nx σ H3) → tDrop (tBM K "list" rAppend (tVar 2) (tCons te tNil)) D σ H' := by
    intro te σ D m H' e hw hm h k
    rw [hW] at hw
    obtain ⟨s3, ⟨xs, e3, l3⟩, q3⟩ := hw
    refine ⟨_, e, .inl ⟨rfl, _, SqL.of e3⟩, h _ fun r => ⟨p, _, .int r, rfl, rfl, e3, by rw [List.length_map, sizeLine_eq]; omega, k _ ?_⟩⟩
    rw [hW]
    refine ⟨fun b o z => ?_, ⟨xs ++ [r], by rw [upd_same, List.map_append]; rfl, by rw [List.length_append]; simp only [List.length_cons, List.length_nil]; omega⟩, by rw [upd_ne npq.symm]; exact q3⟩
    rw [upd_ne (ne_of_none z hp)]
    exact s3 b o z
  have mono : ∀ {m m' : Nat} {H' : Hp}, W m H' → m ≤ m' → W m' H' := by
    intro m m' H' hw h
    rw [hW] at hw ⊢
    obtain ⟨s3, ⟨xs, e3, l3⟩, q3⟩ := hw
    exact ⟨s3, ⟨xs, e3, Nat.le_trans l3 h⟩, q3⟩
  have w0 : W 0 H2 := by
    rw [hW]
    exact ⟨s2, u2, uq⟩
  have wq : ∀ {m : Nat} {H' : Hp}, W m H' → H' q = some (.lst (L.map V.int)) := fun h => by
    rw [hW] at h
    exact h.2.2
  refine ⟨q, rfl, ⟨_, SqL.of uq⟩, for_list (K := K) (a := q) (xs := L.map V.int) (fun j σ H' => ∃ (b : Int) (v4 v5 v6 : Option V), σ = [some (.ref a), some (.int n), some (.ref p), some (.int b), v4, v5, v6] ∧ W (60 * j) H') ⟨_, _, _, _, rfl, w0⟩ (fun j σ H' _ ⟨_, _, _, _, _, hw⟩ => SqL.of (wq hw)) ?_ ?_⟩
  · rintro j y σ H' hj ⟨b, v4, v5, v6, rfl, hw⟩
    have hjl : j < L.length := by
      have := (List.getElem?_eq_some_iff.mp hj).1
      rw [List.length_map] at this
      exact this
    obtain ⟨c, rfl⟩ : ∃ c : Int, y = .int c := by
      obtain ⟨x, _, e⟩ := List.mem_map.mp (List.mem_of_getElem? hj)
      exact ⟨x, e.symm⟩
    dsimp only [gName]
    refine set_sl (σ' := [some (.ref a), some (.int n), some (.ref p), some (.int b), some (.int c), v5, v6]) rfl ?_
    refine asg_te (te_i0 (te_var rfl) (te_var rfl)) ?_
    refine set_sl (σ' := [some (.ref a), some (.int n), some (.ref p), some (.int (b + c)), some (.int c), v5, v6]) rfl ?_
    refine if_go (tt_test (te_i0 (te_var rfl) te_c)) (fun _ => ?_) fun _ => ?_
    · refine asg_te (te_var rfl) ?_
      refine set_sl (σ' := [some (.ref a), some (.int n), some (.ref p), some (.int (b + c)), some (.int c), some (.int c), v6]) rfl ?_
      refine ⟨60, rfl, by decide, by decide, for_range (lo := 0) (n := 60) (fun i σ H'' => ∃ (r : Int) (v6 : Option V), σ = [some (.ref a), some (.int n), some (.ref p), some (.int (b + c)), some (.int c), some (.int r), v6] ∧ W (60 * j + i) H'') ⟨_, _, rfl, hw⟩ ?_ ?_⟩
      · rintro i σ H'' hi ⟨r, v6, rfl, hw⟩
        dsimp only [gName]
        refine set_sl (σ' := [some (.ref a), some (.int n), some (.ref p), some (.int (b + c)), some (.int c), some (.int r), some (.int (0 + (i : Int)))]) rfl ?_
        refine app rfl hw (by omega) (fun Q k => te_i (C := fun _ j => 0 < j) (g := fun i j => .int (i % j)) (te_int1 (te_var rfl)) te_c (show (0 : Int) < 840 by decide) _ (k _)) fun H3 w3 => ?_
        refine asg_te (te_i (te_var rfl) te_c (show CDiv _ _ from ⟨by decide, by decide⟩)) ?_
        refine set_sl (σ' := [some (.ref a), some (.int n), some (.ref p), some (.int (b + c)), some (.int c), some (.int (r / 840)), some (.int (0 + (i : Int)))]) rfl ?_
        refine if_go (tt_test (te_eq (te_var rfl) te_c rfl)) (fun _ => ?_) fun _ => ?_
        · exact ⟨_, _, _, _, rfl, mono w3 (by omega)⟩
        · exact ⟨_, _, rfl, w3⟩
      · rintro σ H'' ⟨r, v6, rfl, hw⟩
        exact ⟨_, _, _, _, rfl, mono hw (by omega)⟩
    · refine app rfl hw (by omega) (fun Q k => ?_) fun H3 w3 => ⟨_, _, _, _, rfl, mono w3 (by omega)⟩
      exact te_mix2 (n := c) (k := 3) (ta_cons (te_var rfl) (ta_cons te_c ta_nil)) k
  · rintro σ H' ⟨b, v4, v5, v6, rfl, hw⟩
    dsimp only
    refine ⟨_, rfl, n, rfl, by omega, by omega, for_range (lo := 0) (n := n.toNat) (fun i σ H'' => ∃ v6 : Option V, σ = [some (.ref a), some (.int n), some (.ref p), some (.int b), v4, v5, v6] ∧ W (60 * 63 + i) H'') ⟨_, rfl, mono hw (by rw [List.length_map]; omega)⟩ ?_ ?_⟩
    · rintro i σ H'' hi ⟨v6, rfl, hw⟩
      dsimp only [gName]
      refine set_sl (σ' := [some (.ref a), some (.int n), some (.ref p), some (.int b), v4, v5, some (.int (0 + (i : Int)))]) rfl ?_
      refine app rfl hw (by omega) (fun Q k => ?_) fun H3 w3 => ⟨_, rfl, w3⟩
      have c3 : CMul 31 (0 + (i : Int)) := .inl ⟨by omega, by omega⟩
      exact te_mix2 (n := b + 31 * (0 + (i : Int))) (k := 11 + (0 + (i : Int))) (ta_cons (te_i0 (te_var rfl) (te_i te_c (te_var rfl) c3)) (ta_cons (te_i0 te_c (te_var rfl)) ta_nil)) k
    · rintro σ H'' ⟨v6, rfl, hw⟩
      rw [hW] at hw
      obtain ⟨s3, ⟨xs, e3, l3⟩, q3⟩ := hw
      dsimp only
      refine ⟨_, rfl, .inl ⟨rfl, _, SqL.of e3⟩, p, _, rfl, rfl, e3, ?_⟩
      refine ret_te (te_var rfl) (k p _ hp (fun b o z => ?_) ⟨xs.reverse, by rw [upd_same, List.map_reverse]⟩)
      rw [upd_ne (ne_of_none z hp)]
      exact s3 b o z
end
end K13

namespace K13
open PySem L2 YF
/-! ### drawn expressions -/
def dpE : Ex → Nat
  | .num _ => 0
  | .var _ _ => 0
  | .cell _ a => dpE a + 1
  | .one _ a => dpE a + 1
  | .two _ a b => max (dpE a) (dpE b) + 1
def okD : Ex → Prop
  | .var w (.str x) => w = "local" ∧ (x = "x" ∨ x = "y")
  | .cell _ _ => True
  | _ => False
def cells0 : List Cl := [("a", 2, 3), ("b", 1, 0), ("c", 3, -1)]
section
variable {P : Program} {w : World} {K : PySem.W.Frag} {mg : Str → Option Value} {base : Heap} {A : Adr}
theorem row_tup {p t : Addr} {X : List Addr} {H : Hp} {xs : List V} {ds : D} (hr : Row H p) (hm : p ∈ X) (nt : t ∉ X) (ht : H t = none) (hl : xs.length ≤ 100000) (r : Rp K (kp X H) ds xs) : Stay p H (upd H t (.tup xs)) ∧ Row (upd H t (.tup xs)) p ∧ Rp K (kp X (upd H t (.tup xs))) (.tup ds) [.ref t] := by
  obtain ⟨ns, e⟩ := hr
  have n1 : p ≠ t := ne_of_none e ht
  have s : Stay p H (upd H t (.tup xs)) := Stay.refl.new ht
  exact ⟨s, ⟨ns, by rw [upd_ne n1]; exact e⟩, t, xs, rfl, SqT.of (kp_at upd_same nt fun ps z => by cases z), hl, Rp.mono (s.kp hm) r⟩
structure Dr (K : PySem.W.Frag) (X : List Addr) (H : Hp) (p pc pn : Addr) (cs : List Cl) : Prop where
  row : Row H p
  cel : CellsIn K (kp X H) pc cs
  nms : SqL K (kp X H) pn [.str "x", .str "y"]
  mem : p ∈ X
  al : ∀ x ∈ X, H x ≠ none
theorem al_stay {X : List Addr} {H H' : Hp} {p : Addr} (al : ∀ x ∈ X, H x ≠ none) (s : Stay p H H') (r : Row H' p) : ∀ x ∈ X, H' x ≠ none := fun x hx => by
  by_cases z : x = p
  · obtain ⟨ns, e⟩ := r
    rw [z, e]
    simp
  · cases q : H x with
    | none => exact absurd q (al x hx)
    | some o =>
      rw [s.all _ _ z q]
      simp
theorem Dr.mono {X : List Addr} {H H' : Hp} {p pc pn : Addr} {cs : List Cl} (d : Dr K X H p pc pn cs) (s : Stay p H H') (r : Row H' p) : Dr K X H' p pc pn cs := ⟨r, d.cel.mono (s.kp d.mem), Same.sqL (s.kp d.mem) d.nms, d.mem, al_stay d.al s r⟩
def spExp (K : PySem.W.Frag) (n : Nat) : Sp := fun vs H Q _ => ∃ (X : List Addr) (p pc pn : Addr) (d : Int) (cs : List Cl), vs = [.ref p, .int d, .ref pc, .ref pn] ∧ 0 ≤ d ∧ d < n ∧ 0 < cs.length ∧ cs.length < 1000 ∧ Dr K X H p pc pn cs ∧
  ∀ e v H', e.ok → okEx okD e → stp e + 3 ≤ 2 ^ (d.toNat + 2) ∧ dpE e ≤ d.toNat → Stay p H H' → Row H' p → Rp K (kp X H') e.d [v] → Q v H'
theorem go_exp {n : Nat} {σ : L2.St} {H : Hp} {ta : TA} {X : List Addr} {p pc pn : Addr} {d : Int} {cs : List Cl} {E : XK} {Q : VK} (ha : Ta ta σ H [.ref p, .int d, .ref pc, .ref pn]) (d0 : 0 ≤ d) (d1 : d < n) (c0 : 0 < cs.length) (c1 : cs.length < 1000) (D : Dr K X H p pc pn cs)
    (k : ∀ e v H', e.ok → okEx okD e → stp e + 3 ≤ 2 ^ (d.toNat + 2) ∧ dpE e ≤ d.toNat → Stay p H H' → Row H' p → Rp K (kp X H') e.d [v] → Q v H') : tCall (spExp K n) [] E ta σ H Q := ha _ ⟨X, p, pc, pn, d, cs, rfl, d0, d1, c0, c1, D, k⟩
theorem tt_seq {σ : L2.St} {H : Hp} {i : Nat} {a : Addr} {x : V} {xs : List V} (h : σ[i]? = some (some (.ref a))) (hs : SqL K H a (x :: xs)) : Tt (fun σ H Q => tVar i σ H fun x H' => ∃ k, TruV K x H' k ∧ Q k H') σ H true := fun Q q => ⟨_, h, true, .inl ⟨_, hs, rfl⟩, q⟩
theorem fin_tup {X : List Addr} {p : Addr} {H H2 : Hp} {xs : List V} {ds : D} {Q : VK} (hm : p ∈ X) (al : ∀ x ∈ X, H2 x ≠ none) (hr : Row H2 p) (hs : Stay p H H2) (hl : xs.length ≤ 1000) (r : Rp K (kp X H2) ds xs) (k : ∀ v H', Stay p H H' → Row H' p → Rp K (kp X H') (.tup ds) [v] → Q v H') : xs.length ≤ sizeLine ∧ ∀ t, H2 t = none → Q (.ref t) (upd H2 t (.tup xs)) :=
  ⟨Nat.le_trans hl (by decide), fun t ht => by
    obtain ⟨s3, r3, q3⟩ := row_tup hr hm (fun m => al t m ht) ht (Nat.le_trans hl (by decide)) r
    exact k _ _ (hs.trans s3) r3 q3⟩
theorem go_number {σ : L2.St} {H : Hp} {ta : TA} {p : Addr} {E : XK} {Q : VK} (ha : Ta ta σ H [.ref p]) (r : Row H p) (k : ∀ n H', InR n → Stay p H H' → Row H' p → Q (.int n) H') : tCall spNumber [] E ta σ H Q := ha _ ⟨p, rfl, r, k⟩
theorem at_words {ws : List Str} {c : Int} (h0 : 0 ≤ c) (h1 : c < ws.length) : ∃ w ∈ ws, atI (ws.map V.str) c = some (.str w) := by
  obtain ⟨j, rfl⟩ : ∃ j : Nat, c = j := ⟨c.toNat, by omega⟩
  have hj : j < ws.length := by omega
  exact ⟨ws[j], List.getElem_mem hj, atI_nat (by rw [List.getElem?_map, List.getElem?_eq_getElem hj]; rfl)⟩
theorem pow_up {d : Int} {k : Nat} (h : 1 ≤ d) (hk : k ≤ 2 ^ ((d - 1).toNat + 2)) : 2 * k ≤ 2 ^ (d.toNat + 2) := by
  have e : d.toNat + 2 = ((d - 1).toNat + 2) + 1 := by omega
  rw [e, Nat.pow_succ]
  omega
theorem ok_law_index {n : Nat} (T : Txt K mg A) (ih : FnOk P w K mg base CX0 (2 * n + 2) A.a__law_exp A.d__law_exp ["row", "depth", "cells", "names"] (spExp K n)) : FnOk P w K mg base CX0 (2 * n + 3) A.a__law_index A.d__law_index ["row", "depth", "cells", "names"] (spExp K n) := by
  refine T.F__law_index.ok sc_law_index (fun vs H Q E ⟨_, _, _, _, _, _, e, _⟩ => by rw [e]; rfl) (fun cdv A' outer s0 H vs Q E hr h => ?_)
  obtain ⟨X, p, pc, pn, d, cs, rfl, d0, d1, c0, c1, D, k⟩ := h
  refine ⟨_, pss_cons (ps_if (pt_cmpR op_gt (pe_call (ok_law_take T) (hr.mono (by omega)) rfl T.g__law_take T.F__law_take.kp T.b__law_take .nil pass0 (pa_cons (pv 0) (pa_cons (pe_int) pa_nil))) (pe_int) (nomark _))
  (pss_one (ps_ret (pe_tup (pa_cons (pe_str) (pa_cons (pe_call (ok_law_take T) (hr.mono (by omega)) rfl T.g__law_take T.F__law_take.kp T.b__law_take .nil pass0 (pa_cons (pv 0) (pa_cons (pe_int) pa_nil))) pa_nil)))))
  (pss_nil))
  (pss_one (ps_ret (pe_call ih (hr.mono (by omega)) rfl T.g__law_exp T.F__law_exp.kp T.b__law_exp .nil pass0 (pa_cons (pv 0) (pa_cons (pv 1) (pa_cons (pv 2) (pa_cons (pv 3) pa_nil))))))), ?_⟩
  refine go_take (m := 4) (ta_cons (te_var rfl) (ta_cons te_c ta_nil)) D.row fun c H1 _ _ s1 r1 => ?_
  refine ⟨_, _, rfl, rfl, _, rfl, ite3 (fun _ => ?_) fun _ => ?_⟩
  · refine go_take (m := 2) (ta_cons (te_var rfl) (ta_cons te_c ta_nil)) r1 fun c H2 e0 e1 s2 r2 => ?_
    refine fin_tup (ds := .cons (.str "number") (.cons (.int c) .nil)) D.mem (al_stay D.al (s1.trans s2) r2) r2 (s1.trans s2) (by show 2 ≤ 1000; decide) ⟨_, _, rfl, rfl, _, _, rfl, rfl, rfl⟩ fun v H' g1 g2 g3 => k (.num c) v H' trivial trivial ?_ g1 g2 g3
    exact ⟨Nat.pow_le_pow_right (n := 2) (by decide) (show 2 ≤ d.toNat + 2 by omega), Nat.zero_le _⟩
  · exact go_exp (d := d) (p := p) (pc := pc) (pn := pn) (ta_cons (te_var rfl) (ta_cons (te_var rfl) (ta_cons (te_var rfl) (ta_cons (te_var rfl) ta_nil)))) d0 d1 c0 c1 (D.mono s1 r1) fun e v H2 a1 a2 a3 a4 a5 a6 => k e v H2 a1 a2 a3 (s1.trans a4) a5 a6
theorem ok_law_exp (T : Txt K mg A) : ∀ n : Nat, FnOk P w K mg base CX0 (2 * n + 2) A.a__law_exp A.d__law_exp ["row", "depth", "cells", "names"] (spExp K n) := by
  intro n
  induction n with
  | zero => exact ⟨fun vs H Q E ⟨_, _, _, _, _, _, e, _⟩ => by rw [e]; rfl, fun A' outer s H args us vs Q E hr e0 hb r ⟨_, _, _, _, _, _, e, h0, h1, _⟩ => by omega⟩
  | succ n ih =>
    have ix := ok_law_index T ih
    refine T.F__law_exp.ok (k := 2 * n + 3) sc_law_exp (fun vs H Q E ⟨_, _, _, _, _, _, e, _⟩ => by rw [e]; rfl) (fun cdv A' outer s0 H vs Q E hr h => ?_)
    obtain ⟨X, p, pc, pn, d, cs, rfl, d0, d1, c0, c1, D, k⟩ := h
    refine ⟨_, pss_cons (ps_set (i := 4) sc_law_exp.nd rfl (Or.inl rfl) (pe_call (ok_law_take T) (hr.mono (by omega)) rfl T.g__law_take T.F__law_take.kp T.b__law_take .nil pass0 (pa_cons (pv 0) (pa_cons (pe_int) pa_nil))))
  (pss_cons (ps_if (PW.pt (pw_or (pt_cmpR op_eq (pv 1) (pe_int) (nomark _)) (pw_or1 (pt_cmpR op_lt (pv 4) (pe_int) (nomark _)))))
  (pss_cons (ps_if (PW.pt (pw_and (pt_cmpR op_eq (pe_op op_mod (pe_callTy call_int1 (by rfl) T.n_int (by decide +kernel) (pa_cons (pv 4) pa_nil)) (pe_int)) (pe_int) (nomark _)) (pw_and1 (pt_truth (pv 3) (by intro _; rfl)))))
  (pss_one (ps_ret (pe_tup (pa_cons (pe_str) (pa_cons (pe_ix ix_list (pv 3) (pe_call (ok_law_take T) (hr.mono (by omega)) rfl T.g__law_take T.F__law_take.kp T.b__law_take .nil pass0 (pa_cons (pv 0) (pa_cons (pe_callB call_len_seq (by rfl) T.n_len (by decide +kernel) (pa_cons (pv 3) pa_nil)) pa_nil))) (fun _ _ => rfl)) pa_nil)))))
  (pss_nil))
  (pss_one (ps_ret (pe_tup (pa_cons (pe_str) (pa_cons (pe_call (ok_law_number T) (hr.mono (by omega)) rfl T.g__law_number T.F__law_number.kp T.b__law_number .nil pass0 (pa_cons (pv 0) pa_nil)) pa_nil))))))
  (pss_nil))
  (pss_cons (ps_if (PW.pt (pw_and (pt_cmpR op_lt (pv 4) (pe_int) (nomark _)) (pw_and1 (pt_truth (pv 2) (by intro _; rfl)))))
  (pss_one (ps_ret (pe_tup (pa_cons (pe_str) (pa_cons (pe_ix ix_tup (pe_ix ix_list (pv 2) (pe_call (ok_law_take T) (hr.mono (by omega)) rfl T.g__law_take T.F__law_take.kp T.b__law_take .nil pass0 (pa_cons (pv 0) (pa_cons (pe_callB call_len_seq (by rfl) T.n_len (by decide +kernel) (pa_cons (pv 2) pa_nil)) pa_nil))) (fun _ _ => rfl)) (pe_int) (fun _ _ => rfl)) (pa_cons (pe_call ix (hr.mono (by omega)) rfl T.g__law_index T.F__law_index.kp T.b__law_index .nil pass0 (pa_cons (pv 0) (pa_cons (pe_op op_sub (pv 1) (pe_int)) (pa_cons (pv 2) (pa_cons (pv 3) pa_nil))))) pa_nil))))))
  (pss_nil))
  (pss_cons (ps_if (pt_cmpR op_lt (pv 4) (pe_int) (nomark _))
  (pss_one (ps_ret (pe_tup (pa_cons (pe_ix ix_list (pe_lst (pa_cons (pe_str) (pa_cons (pe_str) pa_nil))) (pe_op op_sub (pv 4) (pe_int)) (fun _ _ => rfl)) (pa_cons (pe_call ih (hr.mono (by omega)) rfl T.g__law_exp T.F__law_exp.kp T.b__law_exp .nil pass0 (pa_cons (pv 0) (pa_cons (pe_op op_sub (pv 1) (pe_int)) (pa_cons (pv 2) (pa_cons (pv 3) pa_nil))))) pa_nil)))))
  (pss_nil))
  (pss_cons (ps_set (i := 5) sc_law_exp.nd rfl (Or.inl rfl) (pe_lst (pa_cons (pe_str) (pa_cons (pe_str) (pa_cons (pe_str) (pa_cons (pe_str) (pa_cons (pe_str) (pa_cons (pe_str) (pa_cons (pe_str) (pa_cons (pe_str) (pa_cons (pe_str) (pa_cons (pe_str) pa_nil))))))))))))
  (pss_cons (ps_set (i := 6) sc_law_exp.nd rfl (Or.inl rfl) (pe_ix ix_list (pv 5) (pe_call (ok_law_take T) (hr.mono (by omega)) rfl T.g__law_take T.F__law_take.kp T.b__law_take .nil pass0 (pa_cons (pv 0) (pa_cons (pe_int) pa_nil))) (fun _ _ => rfl)))
  (pss_cons (ps_set (i := 7) sc_law_exp.nd rfl (Or.inl rfl) (pe_call ih (hr.mono (by omega)) rfl T.g__law_exp T.F__law_exp.kp T.b__law_exp .nil pass0 (pa_cons (pv 0) (pa_cons (pe_op op_sub (pv 1) (pe_int)) (pa_cons (pv 2) (pa_cons (pv 3) pa_nil))))))
  (pss_one (ps_ret (pe_tup (pa_cons (pv 6) (pa_cons (pv 7) (pa_cons (pe_call ih (hr.mono (by omega)) rfl T.g__law_exp T.F__law_exp.kp T.b__law_exp .nil pass0 (pa_cons (pv 0) (pa_cons (pe_op op_sub (pv 1) (pe_int)) (pa_cons (pv 2) (pa_cons (pv 3) pa_nil))))) pa_nil)))))))))))), ?_⟩
    have pw : 4 ≤ 2 ^ (d.toNat + 2) := Nat.pow_le_pow_right (n := 2) (by decide) (show 2 ≤ d.toNat + 2 by omega)
    refine go_take (m := 16) (ta_cons (te_var rfl) (ta_cons te_c ta_nil)) D.row fun c H1 e0 e1 s1 r1 => ?_
    dsimp only [gName]
    refine set_sl (σ' := [some (.ref p), some (.int d), some (.ref pc), some (.ref pn), some (.int c), none, none, none]) rfl ?_
    have D1 := D.mono s1 r1
    obtain ⟨xc, hxc, hpc⟩ := D1.cel.ex
    obtain ⟨x0, xr, rfl⟩ : ∃ x r, xc = x :: r := by
      cases xc with
      | nil =>
        have := paired_len hpc
        simp at this
        omega
      | cons x r => exact ⟨x, r, rfl⟩
    have hn1 := Same.sqL kp_sub D1.nms
    have hc1 := Same.sqL kp_sub hxc
    refine if_seq (b := decide (V.int d = V.int 0) || decide (c < 5)) (tt_or (tt_test (te_eq (te_var rfl) te_c rfl)) fun _ => tt_test (te_i0 (te_var rfl) te_c)) (fun h0 => ?_) fun h0 => ?_
    · refine if_seq (b := decide (V.int (c % 2) = V.int 0) && true) (tt_and (tt_test (te_eq (te_mod (te_int1 (te_var rfl)) te_c (by decide)) te_c rfl)) fun _ => tt_seq rfl hn1) (fun h1 => ?_) fun h1 => ?_
      · refine ⟨_, rfl, ?_⟩
        refine go_take (m := 2) (ta_cons (te_var rfl) (ta_cons (te_len (te_var rfl) (.inl hn1)) ta_nil)) r1 fun c2 H2 a0 a1 s2 r2 => ?_
        have hn2 := Same.sqL kp_sub (D1.mono s2 r2).nms
        have c2 : c2 = 0 ∨ c2 = 1 := by omega
        have key : ∀ x : Str, x = "x" ∨ x = "y" → [V.str "local", V.str x].length ≤ sizeLine ∧ ∀ t, H2 t = none → Q (.ref t) (upd H2 t (.tup [V.str "local", V.str x])) := fun x hx =>
          fin_tup (ds := .cons (.str "local") (.cons (.str x) .nil)) D.mem (al_stay D.al (s1.trans s2) r2) r2 (s1.trans s2) (by show 2 ≤ 1000; decide) ⟨_, _, rfl, rfl, _, _, rfl, rfl, rfl⟩ fun v H' g1 g2 g3 => k (.var "local" (.str x)) v H' ⟨.inl rfl, rfl⟩ ⟨rfl, hx⟩ ⟨pw, Nat.zero_le _⟩ g1 g2 g3
        rcases c2 with rfl | rfl
        · exact ⟨pn, _, _, _, rfl, rfl, hn2, rfl, key "x" (.inl rfl)⟩
        · exact ⟨pn, _, _, _, rfl, rfl, hn2, rfl, key "y" (.inr rfl)⟩
      · refine go_number (p := p) (ta_cons (te_var rfl) ta_nil) r1 fun c2 H2 a0 s2 r2 => ?_
        exact fin_tup (ds := .cons (.str "number") (.cons (.int c2) .nil)) D.mem (al_stay D.al (s1.trans s2) r2) r2 (s1.trans s2) (by show 2 ≤ 1000; decide) ⟨_, _, rfl, rfl, _, _, rfl, rfl, rfl⟩ fun v H' g1 g2 g3 => k (.num c2) v H' trivial trivial ⟨pw, Nat.zero_le _⟩ g1 g2 g3
    have h0 := Bool.or_eq_false_iff.mp h0
    have dn : d ≠ 0 := fun z => by
      rw [z] at h0
      exact absurd h0.1 (by decide)
    have dp : 1 ≤ d := by omega
    refine if_seq (b := decide (c < 8) && true) (tt_and (tt_test (te_i0 (te_var rfl) te_c)) fun _ => tt_seq rfl hc1) (fun h1 => ?_) fun h1 => ?_
    · have hlc : (x0 :: xr).length = cs.length := paired_len hpc
      refine ⟨_, rfl, ?_⟩
      refine go_take (p := p) (m := ((x0 :: xr).length : Int)) ?_ r1 (fun c2 H2 a0 a1 s2 r2 => ?_) (by omega) (by omega)
      · exact ta_cons (te_var rfl) (ta_cons (te_len (te_var rfl) (.inl hc1)) ta_nil)
      have D2 := D1.mono s2 r2
      obtain ⟨j, rfl⟩ : ∃ j : Nat, c2 = j := ⟨c2.toNat, by omega⟩
      have hj : j < (x0 :: xr).length := by omega
      have hx2 : SqL K H2 pc (x0 :: xr) := Same.sqL (s2.same D.mem) hxc
      obtain ⟨cl, hcl, t, et, ht⟩ := paired_at hpc (List.getElem?_eq_getElem hj)
      have ht2 := Same.sqT (s2.same D.mem) ht
      refine ⟨pc, _, _, _, rfl, rfl, hx2, atI_nat (List.getElem?_eq_getElem hj), ?_⟩
      refine ⟨t, _, _, _, et, rfl, ht2, rfl, ?_⟩
      refine go_exp (d := d - 1) (p := p) (pc := pc) (pn := pn) (ta_cons (te_var rfl) (ta_cons (te_i0 (te_var rfl) te_c) (ta_cons (te_var rfl) (ta_cons (te_var rfl) ta_nil)))) (by omega) (by omega) c0 c1 D2 fun e v H3 b1 b2 b3 b4 b5 b6 => ?_
      refine fin_tup (ds := .cons (.str "cell") (.cons (.str cl.1) (.cons e.d .nil))) D.mem (al_stay D.al ((s1.trans s2).trans b4) b5) b5 ((s1.trans s2).trans b4) (by show 3 ≤ 1000; decide) ⟨_, _, rfl, rfl, _, _, rfl, rfl, _, _, rfl, b6, rfl⟩ fun v H' g1 g2 g3 => k (.cell cl.1 e) v H' b1 ⟨trivial, b2⟩ ?_ g1 g2 g3
      have := pow_up dp b3.1
      refine ⟨?_, show dpE e + 1 ≤ _ by omega⟩
      show stp e + 2 + 3 ≤ _
      have := stp_pos e
      omega
    have h1 : 8 ≤ c := by simpa using h1
    refine if_seq (tt_test (te_i0 (te_var rfl) te_c)) (fun h2 => ?_) fun h2 => ?_
    · have h2 : c < 10 := of_decide_eq_true h2
      refine ⟨by show 2 ≤ sizeLine; decide, fun q hq => ?_⟩
      have npq : p ≠ q := by
        obtain ⟨ns, e⟩ := r1
        exact ne_of_none e hq
      have s2 : Stay p H1 (upd H1 q (.lst [.str "not", .str "negative"])) := Stay.refl.new hq
      have r2 : Row (upd H1 q (.lst [.str "not", .str "negative"])) p := by
        obtain ⟨ns, e⟩ := r1
        exact ⟨ns, by rw [upd_ne npq]; exact e⟩
      have key : ∀ x : Str, x ∈ Ex.words1 → (tCons (tCall (spExp K n) [] E0 (tCons (tVar 0) (tCons (tOp (rI0 fun i j => .int (i - j)) (tVar 1) (tC (.int 1))) (tCons (tVar 2) (tCons (tVar 3) tNil))))) tNil) [some (.ref p), some (.int d), some (.ref pc), some (.ref pn), some (.int c), none, none, none] (upd H1 q (.lst [.str "not", .str "negative"]))
          fun vs H' => (V.str x :: vs).length ≤ sizeLine ∧ ∀ t, H' t = none → Q (.ref t) (upd H' t (.tup (V.str x :: vs))) := fun x hx => by
        refine go_exp (d := d - 1) (p := p) (pc := pc) (pn := pn) (ta_cons (te_var rfl) (ta_cons (te_i0 (te_var rfl) te_c) (ta_cons (te_var rfl) (ta_cons (te_var rfl) ta_nil)))) (by omega) (by omega) c0 c1 (D1.mono s2 r2) fun e v H3 b1 b2 b3 b4 b5 b6 => ?_
        refine fin_tup (ds := .cons (.str x) (.cons e.d .nil)) D.mem (al_stay D.al ((s1.trans s2).trans b4) b5) b5 ((s1.trans s2).trans b4) (by show 2 ≤ 1000; decide) ⟨_, _, rfl, rfl, _, _, rfl, b6, rfl⟩ fun v H' g1 g2 g3 => k (.one x e) v H' ⟨hx, b1⟩ b2 ?_ g1 g2 g3
        have := pow_up dp b3.1
        refine ⟨?_, show dpE e + 1 ≤ _ by omega⟩
        show stp e + 2 + 3 ≤ _
        have := stp_pos e
        omega
      have cc : c = 8 ∨ c = 9 := by omega
      rcases cc with rfl | rfl
      · exact ⟨_, rfl, _, _, rfl, rfl, q, _, _, _, rfl, rfl, SqL.of upd_same, rfl, key "not" (by decide)⟩
      · exact ⟨_, rfl, _, _, rfl, rfl, q, _, _, _, rfl, rfl, SqL.of upd_same, rfl, key "negative" (by decide)⟩
    · refine ⟨by show 10 ≤ sizeLine; decide, fun q hq => ?_⟩
      have npq : p ≠ q := by
        obtain ⟨ns, e⟩ := r1
        exact ne_of_none e hq
      have ew : [V.str "plus", .str "minus", .str "times", .str "over", .str "rest", .str "less", .str "atmost", .str "same", .str "and", .str "or"] = Ex.words2.map V.str := rfl
      rw [ew]
      have s2 : Stay p H1 (upd H1 q (.lst (Ex.words2.map V.str))) := Stay.refl.new hq
      have r2 : Row (upd H1 q (.lst (Ex.words2.map V.str))) p := by
        obtain ⟨ns, e⟩ := r1
        exact ⟨ns, by rw [upd_ne npq]; exact e⟩
      have uq : (upd H1 q (.lst (Ex.words2.map V.str))) q = some (.lst (Ex.words2.map V.str)) := upd_same
      generalize upd H1 q (HO.lst (Ex.words2.map V.str)) = H2 at s2 r2 uq ⊢
      dsimp only [gName]
      refine set_sl (σ' := [some (.ref p), some (.int d), some (.ref pc), some (.ref pn), some (.int c), some (.ref q), none, none]) rfl ?_
      refine ⟨_, rfl, ?_⟩
      refine go_take (m := 10) (ta_cons (te_var rfl) (ta_cons te_c ta_nil)) r2 fun c2 H3 a0 a1 s3 r3 => ?_
      obtain ⟨x, hx, ex⟩ := at_words (ws := Ex.words2) a0 a1
      refine ⟨q, _, _, _, rfl, rfl, SqL.of (s3.all _ _ npq.symm uq), ex, ?_⟩
      dsimp only [gName]
      refine set_sl (σ' := [some (.ref p), some (.int d), some (.ref pc), some (.ref pn), some (.int c), some (.ref q), some (.str x), none]) rfl ?_
      have D3 := (D1.mono s2 r2).mono s3 r3
      refine go_exp (d := d - 1) (p := p) (pc := pc) (pn := pn) (ta_cons (te_var rfl) (ta_cons (te_i0 (te_var rfl) te_c) (ta_cons (te_var rfl) (ta_cons (te_var rfl) ta_nil)))) (by omega) (by omega) c0 c1 D3 fun e v H4 b1 b2 b3 b4 b5 b6 => ?_
      dsimp only [gName]
      refine set_sl (σ' := [some (.ref p), some (.int d), some (.ref pc), some (.ref pn), some (.int c), some (.ref q), some (.str x), some v]) rfl ?_
      refine ⟨_, rfl, _, rfl, ?_⟩
      refine go_exp (d := d - 1) (p := p) (pc := pc) (pn := pn) (ta_cons (te_var rfl) (ta_cons (te_i0 (te_var rfl) te_c) (ta_cons (te_var rfl) (ta_cons (te_var rfl) ta_nil)))) (by omega) (by omega) c0 c1 (D3.mono b4 b5) fun e2 v2 H5 f1 f2 f3 f4 f5 f6 => ?_
      refine fin_tup (ds := .cons (.str x) (.cons e.d (.cons e2.d .nil))) D.mem (al_stay D.al ((((s1.trans s2).trans s3).trans b4).trans f4) f5) f5 ((((s1.trans s2).trans s3).trans b4).trans f4) (by show 3 ≤ 1000; decide) ⟨_, _, rfl, rfl, _, _, rfl, Rp.mono (f4.kp D.mem) b6, _, _, rfl, f6, rfl⟩ fun v H' g1 g2 g3 => k (.two x e e2) v H' ⟨hx, b1, f1⟩ ⟨b2, f2⟩ ?_ g1 g2 g3
      have h1 := pow_up dp (show (2 ^ ((d - 1).toNat + 2)) ≤ _ from Nat.le_refl _)
      refine ⟨?_, show max (dpE e) (dpE e2) + 1 ≤ _ by omega⟩
      show stp e + stp e2 + 3 + 3 ≤ _
      omega
def spCells (K : PySem.W.Frag) : Sp := fun vs H Q _ => vs = [] ∧ ∀ a H', H a = none → Same H H' → (∃ xs, H' a = some (.lst xs) ∧ Paired (fun (c : Cl) v => ∃ t, v = .ref t ∧ H' t = some (.tup [.str c.1, .int c.2.1, .int c.2.2])) cells0 xs) → Q (.ref a) H'
theorem ok_law_cells (T : Txt K mg A) : FnOk P w K mg base CX0 1 A.a__law_cells A.d__law_cells [] (spCells K) := by
  refine T.F__law_cells.ok sc_law_cells (fun vs H Q E ⟨e, _⟩ => by rw [e]; rfl) (fun cdv A' outer s0 H vs Q E hr h => ?_)
  obtain ⟨rfl, k⟩ := h
  refine ⟨_, pss_one (ps_ret (pe_lst (pa_cons (pe_tup (pa_cons (pe_str) (pa_cons (pe_int) (pa_cons (pe_int) pa_nil)))) (pa_cons (pe_tup (pa_cons (pe_str) (pa_cons (pe_int) (pa_cons (pe_int) pa_nil)))) (pa_cons (pe_tup (pa_cons (pe_str) (pa_cons (pe_int) (pa_cons (pe_un un_neg pe_int) pa_nil)))) pa_nil))))), ?_⟩
  refine ⟨by show 3 ≤ sizeLine; decide, fun a ha => ?_⟩
  refine ⟨by show 3 ≤ sizeLine; decide, fun b hb => ?_⟩
  refine ⟨_, rfl, by show 3 ≤ sizeLine; decide, fun c hc => ?_⟩
  refine ⟨by show 3 ≤ sizeLine; decide, fun l hl => ?_⟩
  have nba : a ≠ b := ne_of_none upd_same hb
  have eb : H b = none := by rw [upd_ne nba.symm] at hb; exact hb
  have nca : a ≠ c := ne_of_none (by rw [upd_ne nba]; exact upd_same) hc
  have ncb : b ≠ c := ne_of_none upd_same hc
  have ec : H c = none := by rw [upd_ne ncb.symm, upd_ne nca.symm] at hc; exact hc
  have nla : a ≠ l := ne_of_none (by rw [upd_ne nca, upd_ne nba]; exact upd_same) hl
  have nlb : b ≠ l := ne_of_none (by rw [upd_ne ncb]; exact upd_same) hl
  have nlc : c ≠ l := ne_of_none upd_same hl
  have el : H l = none := by rw [upd_ne nlc.symm, upd_ne nlb.symm, upd_ne nla.symm] at hl; exact hl
  refine k l _ el (fun x o e => ?_) ⟨_, upd_same, .cons ⟨a, rfl, ?_⟩ (.cons ⟨b, rfl, ?_⟩ (.cons ⟨c, rfl, ?_⟩ .nil))⟩
  · rw [upd_ne (ne_of_none e el), upd_ne (ne_of_none e ec), upd_ne (ne_of_none e eb), upd_ne (ne_of_none e ha)]
    exact e
  · rw [upd_ne nla, upd_ne nca, upd_ne nba]
    exact upd_same
  · rw [upd_ne nlb, upd_ne ncb]
    exact upd_same
  · rw [upd_ne nlc]
    exact upd_same
end
end K13

/-! readings that give some tree of a kind -/
namespace YF
open PySem PySem.Spec PyProof.Rows L2
section
variable {K : PySem.W.Frag} {X : List Addr} {B : Hp} {σ : St} {te tb : TE} {ta : TA}
def IsI (p : Int → Prop) (d : D) : Prop := ∃ i, d = .int i ∧ p i
def IsL (φ : List D → Prop) (d : D) : Prop := ∃ l, d = .lst (D.row l) ∧ φ l
theorem ep_ed {d : D} (h : Ed K X B te σ d) : EvP K X B te σ (· = d) := h B (Same.refl B)
theorem ep_te {d : D} {v : V} (h : ∀ H, Same B H → Te te σ H v) (r : Rp K B d [v]) : EvP K X B te σ (· = d) := fun H e o j Q q => h H e _ (q v d B H (Grow.refl e) j rfl r)
theorem ep_i0 {f : Int → Int → Int} {p q : Int → Prop} (h : EvP K X B te σ (IsI p)) (k : ∀ N, Same B N → EvP K X N tb σ (IsI q)) : EvP K X B (tOp (rI0 fun i j => .int (f i j)) te tb) σ (IsI fun n => ∃ i j, n = f i j ∧ p i ∧ q j) := fun H e o jj Q qq =>
  h H e o jj _ fun v d N H2 g j2 ⟨i, ed, pi⟩ r => k N g.bn H2 g.nh (g.offI o jj) j2 _ fun u d' N' H3 g2 j3 ⟨j, ed2, pj⟩ r2 => by
    subst ed ed2
    have e1 : v = .int i := by simpa [Rp] using r
    have e2 : u = .int j := by simpa [Rp] using r2
    exact ⟨i, j, e1, e2, qq _ (.int (f i j)) N' H3 (g.trans g2) j3 ⟨_, rfl, i, j, rfl, pi, pj⟩ rfl⟩
theorem ep_str {p : Int → Prop} (h : EvP K X B te σ (IsI p)) (hb : ∀ i, p i → i.natAbs.log2 < 1920) : EvP K X B (tCB (fun xs H Q => ∃ i, xs = [.int i] ∧ i.natAbs.log2 < 1920 ∧ Q (.str (Str.ofString (toString i))) H) (tCons te tNil)) σ (fun d => ∃ i, d = .str (Str.ofString (toString i)) ∧ p i) := fun H e o jj Q qq =>
  h H e o jj _ fun v d N H2 g j2 ⟨i, ed, pi⟩ r => by
    subst ed
    have e1 : v = .int i := by simpa [Rp] using r
    subst e1
    exact ⟨i, rfl, hb i pi, qq _ _ N H2 g j2 ⟨i, rfl, pi⟩ rfl⟩
theorem log_ok {i : Int} (h : i.natAbs ≤ 2000000000) : i.natAbs.log2 < 1920 := by
  by_cases z : i.natAbs = 0
  · rw [z]
    decide
  · refine (Nat.log2_lt z).mpr (Nat.lt_of_le_of_lt h (Nat.lt_of_lt_of_le (by decide : 2000000000 < 2 ^ 31) (Nat.pow_le_pow_right (by decide) (by decide))))
theorem row_at {N : Hp} : ∀ {l : List D} {vs : List V} {n : Nat}, Rp K N (D.row l) vs → n < l.length → ∃ v d, vs[n]? = some v ∧ d ∈ l ∧ l[n]? = some d ∧ Rp K N d [v]
  | [], _, n, _, h => absurd h (Nat.not_lt_zero _)
  | a :: r, _, 0, ⟨x, xs, e, h1, h2⟩, _ => ⟨x, a, by rw [e]; rfl, List.mem_cons_self, rfl, h1⟩
  | a :: r, _, n + 1, ⟨x, xs, e, h1, h2⟩, h => by
    obtain ⟨v, d, q1, q2, q3, q4⟩ := row_at (l := r) (n := n) h2 (by simpa using h)
    exact ⟨v, d, by rw [e]; exact q1, List.mem_cons_of_mem _ q2, q3, q4⟩
theorem row_app {N : Hp} : ∀ {l m : List D} {xs ys : List V}, Rp K N (D.row l) xs → Rp K N (D.row m) ys → Rp K N (D.row (l ++ m)) (xs ++ ys)
  | [], m, xs, ys, h, k => by
    have e : xs = [] := h
    rw [e]
    exact k
  | a :: r, m, xs, ys, ⟨x, us, e, h1, h2⟩, k => by
    rw [e]
    exact ⟨x, us ++ ys, rfl, h1, row_app h2 k⟩
theorem isRow_row : ∀ ds : List D, (D.row ds).isRow = true
  | [] => rfl
  | _ :: r => isRow_row r
theorem len_row : ∀ ds : List D, (D.row ds).len = ds.length
  | [] => rfl
  | _ :: r => by
    show (D.row r).len + 1 = _
    rw [len_row r]
    rfl
theorem row_length {N : Hp} {l : List D} {vs : List V} (h : Rp K N (D.row l) vs) : vs.length = l.length := by rw [Rp.row_len (isRow_row l) h, len_row]
theorem ep_ix {φ : List D → Prop} {n : Int} (h : EvP K X B te σ (IsL φ)) (k : ∀ N, Same B N → EvP K X N tb σ (IsI fun z => 0 ≤ z ∧ z < n)) (hn : ∀ l, φ l → (l.length : Int) = n) : EvP K X B (tOp (rIxL K) te tb) σ (fun d => ∃ l, φ l ∧ d ∈ l) := fun H e o jj Q qq =>
  h H e o jj _ fun v d N H2 g j2 ⟨l, ed, pl⟩ r => k N g.bn H2 g.nh (g.offI o jj) j2 _ fun u d' N' H3 g2 j3 ⟨z, ed2, z0, z1⟩ r2 => by
    subst ed ed2
    obtain ⟨a, xs, e1, r1, _, r3⟩ := r
    have e2 : u = .int z := by simpa [Rp] using r2
    obtain ⟨m, rfl⟩ := Int.eq_ofNat_of_zero_le z0
    have hl := hn l pl
    obtain ⟨w, c, q1, q2, _, q4⟩ := row_at (n := m) (Rp.mono g2.bn r3) (by omega)
    exact ⟨a, xs, _, w, (List.cons.inj e1).1, e2, Same.sqL (g2.bn.trans g2.nh) r1, atI_nat q1, qq w c N' H3 (g.trans g2) j3 ⟨l, pl, q2⟩ q4⟩
/-- an exact list of trees -/
def RpL (K : PySem.W.Frag) (H : Hp) (l : List D) (v : V) : Prop := ∃ a xs, v = .ref a ∧ H a = some (.lst xs) ∧ xs.length ≤ 100000 ∧ Rp K H (D.row l) xs
theorem RpL.rp {H : Hp} {l : List D} {v : V} (h : RpL K H l v) : Rp K H (.lst (D.row l)) [v] := by
  obtain ⟨a, xs, e, h1, h2, h3⟩ := h
  exact ⟨a, xs, by rw [e], SqL.of h1, h2, h3⟩
theorem RpL.mono {H H' : Hp} {l : List D} {v : V} (s : Same H H') (h : RpL K H l v) : RpL K H' l v := by
  obtain ⟨a, xs, e, h1, h2, h3⟩ := h
  exact ⟨a, xs, e, s _ _ h1, h2, Rp.mono s h3⟩
def EvL (K : PySem.W.Frag) (X : List Addr) (B : Hp) (te : TE) (σ : St) (φ : List D → Prop) : Prop :=
  ∀ H1, Same B H1 → Off X B → Ints X H1 → ∀ Q : VK, (∀ v l N H2, Grow X B H1 N H2 → Ints X H2 → φ l → RpL K N l v → Q v H2) → te σ H1 Q
theorem EvL.imp {φ ψ : List D → Prop} (h : EvL K X B te σ φ) (k : ∀ l, φ l → ψ l) : EvL K X B te σ ψ := fun H1 e o j Q q => h H1 e o j Q fun v d N H2 g j2 p r => q v d N H2 g j2 (k d p) r
theorem EvL.ep {φ : List D → Prop} (h : EvL K X B te σ φ) : EvP K X B te σ (IsL φ) := fun H1 e o j Q q => h H1 e o j Q fun v l N H2 g j2 p r => q v _ N H2 g j2 ⟨l, rfl, p⟩ r.rp
theorem el_var {i : Nat} {v : V} {l : List D} (h : σ[i]? = some (some v)) (r : RpL K B l v) : EvL K X B (tVar i) σ (· = l) := fun H1 e _ j Q q => ⟨v, h, q v l B H1 (Grow.refl e) j rfl r⟩
theorem row_of : ∀ {d : D}, d.isRow = true → ∃ l, d = D.row l
  | .nil, _ => ⟨[], rfl⟩
  | .cons a r, h => by
    obtain ⟨l, e⟩ := row_of (d := r) h
    exact ⟨a :: l, by rw [e]; rfl⟩
theorem el_lst {φ : D → Prop} (h : EvPs K X B ta σ φ) (hl : ∀ d, φ d → d.isRow = true ∧ d.len ≤ 1000) : EvL K X B (tLst ta) σ (fun l => φ (D.row l)) := fun H1 e o j Q q =>
  h H1 e o j _ fun vs d N H2 g j2 p r => by
    obtain ⟨h1, h2⟩ := hl d p
    have h3 : vs.length ≤ 1000 := by rw [Rp.row_len h1 r]; exact h2
    obtain ⟨l, rfl⟩ := row_of h1
    refine ⟨Nat.le_trans h3 (by decide), fun a ha => ?_⟩
    have g2 : Grow X N H2 (upd N a (.lst vs)) (upd H2 a (.lst vs)) := Grow.new g.nh ha
    refine q (.ref a) l _ _ (g.trans g2) (fun y m => ?_) p ⟨a, vs, rfl, upd_same, by omega, Rp.mono g2.bn r⟩
    obtain ⟨ns, hy⟩ := j2 y m
    exact ⟨ns, Same.upd ha y _ hy⟩
theorem el_cat {φ ψ : List D → Prop} (h : EvL K X B te σ φ) (k : ∀ N, Same B N → EvL K X N tb σ ψ) (h1 : ∀ l, φ l → l.length ≤ 1000) (h2 : ∀ l, ψ l → l.length ≤ 1000) : EvL K X B (tOp rCat te tb) σ (fun l => ∃ a b, l = a ++ b ∧ φ a ∧ ψ b) := fun H e o jj Q qq =>
  h H e o jj _ fun v l N H2 g j2 pl r => k N g.bn H2 g.nh (g.offI o jj) j2 _ fun u m N' H3 g2 j3 pm r2 => by
    obtain ⟨a, xs, e1, r1, _, r3⟩ := r
    obtain ⟨b, ys, e2, q1, _, q3⟩ := r2
    have l1 := row_length r3
    have l2 := row_length q3
    have b1 := h1 l pl
    have b2 := h2 m pm
    have r3' := Rp.mono g2.bn r3
    refine ⟨a, b, xs, ys, e1, e2, g2.nh _ _ (g2.bn _ _ r1), g2.nh _ _ q1, by rw [sizeLine_eq]; omega, fun p hp => ?_⟩
    have g3 : Grow X N' H3 (upd N' p (.lst (xs ++ ys))) (upd H3 p (.lst (xs ++ ys))) := Grow.new g2.nh hp
    refine qq (.ref p) (l ++ m) _ _ ((g.trans g2).trans g3) (fun y mm => ?_) ⟨l, m, rfl, pl, pm⟩ ⟨p, _, rfl, upd_same, ?_, row_app (Rp.mono g3.bn r3') (Rp.mono g3.bn q3)⟩
    · obtain ⟨ns, hy⟩ := j3 y mm
      exact ⟨ns, Same.upd hp y _ hy⟩
    · rw [List.length_append]
      omega
theorem row_take {N : Hp} : ∀ {l : List D} {xs : List V} (n : Nat), Rp K N (D.row l) xs → Rp K N (D.row (l.take n)) (xs.take n)
  | _, _, 0, _ => rfl
  | [], xs, n + 1, h => by
    have e : xs = [] := h
    rw [e]
    rfl
  | a :: r, xs, n + 1, ⟨x, us, e, h1, h2⟩ => by
    rw [e]
    exact ⟨x, us.take n, rfl, h1, row_take n h2⟩
theorem row_drop {N : Hp} : ∀ {l : List D} {xs : List V} (n : Nat), Rp K N (D.row l) xs → Rp K N (D.row (l.drop n)) (xs.drop n)
  | _, _, 0, h => h
  | [], xs, n + 1, h => by
    have e : xs = [] := h
    rw [e]
    rfl
  | a :: r, xs, n + 1, ⟨x, us, e, h1, h2⟩ => by
    rw [e]
    exact row_drop n h2
/-- xs[:n], xs[n:], xs and n in variables -/
theorem el_to {i j : Nat} {v : V} {l : List D} {n : Nat} (hi : σ[i]? = some (some v)) (hj : σ[j]? = some (some (.int n))) (r : RpL K B l v) (hn : n ≤ l.length) : EvL K X B (tSl (rSlL K) (tVar i) tNoPart (tPart (tVar j))) σ (· = l.take n) := fun H e o jj Q q => by
  obtain ⟨a, xs, rfl, h1, h2, h3⟩ := r
  have hl := row_length h3
  refine ⟨_, hi, ⟨_, hj, n, rfl, a, xs, rfl, SqL.of (e _ _ h1), fun p hp => ?_⟩⟩
  have ec : cutV xs none (some (n : Int)) = xs.take n := by
    unfold cutV HT.sIx
    dsimp only
    rw [if_neg (by omega), Int.toNat_natCast, Nat.min_eq_left (by omega)]
    rfl
  rw [ec]
  have g3 : Grow X B H (upd B p (.lst (xs.take n))) (upd H p (.lst (xs.take n))) := Grow.new e hp
  refine q (.ref p) (l.take n) _ _ g3 (fun y mm => ?_) rfl ⟨p, _, rfl, upd_same, by rw [List.length_take]; omega, Rp.mono g3.bn (row_take n h3)⟩
  obtain ⟨ns, hy⟩ := jj y mm
  exact ⟨ns, Same.upd hp y _ hy⟩
theorem el_from {i j : Nat} {v : V} {l : List D} {n : Nat} (hi : σ[i]? = some (some v)) (hj : σ[j]? = some (some (.int n))) (r : RpL K B l v) (hn : n ≤ l.length) : EvL K X B (tSl (rSlL K) (tVar i) (tPart (tVar j)) tNoPart) σ (· = l.drop n) := fun H e o jj Q q => by
  obtain ⟨a, xs, rfl, h1, h2, h3⟩ := r
  have hl := row_length h3
  refine ⟨_, hi, ⟨_, hj, n, rfl, a, xs, rfl, SqL.of (e _ _ h1), fun p hp => ?_⟩⟩
  have ec : cutV xs (some (n : Int)) none = xs.drop n := by
    unfold cutV HT.sIx
    dsimp only
    rw [if_neg (by omega), Int.toNat_natCast, Nat.min_eq_left (by omega), List.take_of_length_le (by rw [List.length_drop]; omega)]
  rw [ec]
  have g3 : Grow X B H (upd B p (.lst (xs.drop n))) (upd H p (.lst (xs.drop n))) := Grow.new e hp
  refine q (.ref p) (l.drop n) _ _ g3 (fun y mm => ?_) rfl ⟨p, _, rfl, upd_same, by rw [List.length_drop]; omega, Rp.mono g3.bn (row_drop n h3)⟩
  obtain ⟨ns, hy⟩ := jj y mm
  exact ⟨ns, Same.upd hp y _ hy⟩
end
end YF

namespace K13
open PySem L2 YF NdefX
/-! ### drawn statements -/
def nm2 : List Str := ["x", "y"]
theorem okD_LR : ∀ {e : Ex}, okEx okD e → okEx (okLR nm2) e
  | .num _, _ => trivial
  | .var w x, h => by
    cases x with
    | str x =>
      obtain ⟨h1, h2⟩ := h
      refine ⟨h1, ?_⟩
      rcases h2 with rfl | rfl <;> decide
    | _ => exact h.elim
  | .cell _ a, h => ⟨trivial, okD_LR h.2⟩
  | .one _ a, h => okD_LR (e := a) h
  | .two _ a b, h => ⟨okD_LR (e := a) h.1, okD_LR (e := b) h.2⟩
def bS (d r : Nat) : Nat := 6 ^ d * 10 ^ r
def ofL : List Sm → Bd
  | [] => .nil
  | s :: r => .cons s (ofL r)
theorem ofL_row : ∀ L : List Sm, (ofL L).row = D.row (L.map Sm.d)
  | [] => rfl
  | s :: r => by
    show D.cons s.d (ofL r).row = D.cons s.d (D.row (r.map Sm.d))
    rw [ofL_row r]
theorem ofL_ok {P : Sm → Prop} {m c : Nat} : ∀ {L : List Sm}, (∀ s ∈ L, s.ok nm2 ∧ s.dp ≤ m ∧ s.cst ≤ c) → (ofL L).ok nm2 ∧ (ofL L).dp ≤ m ∧ (ofL L).cst ≤ L.length * c
  | [], _ => ⟨trivial, Nat.zero_le _, Nat.zero_le _⟩
  | s :: r, h => by
    obtain ⟨h1, h2, h3⟩ := h s (by simp)
    obtain ⟨g1, g2, g3⟩ := ofL_ok (P := P) (L := r) fun t ht => h t (by simp [ht])
    refine ⟨⟨h1, g1⟩, Nat.max_le.mpr ⟨h2, g2⟩, ?_⟩
    show s.cst + (ofL r).cst ≤ (r.length + 1) * c
    rw [Nat.add_mul, Nat.one_mul]
    omega
structure Dn (K : PySem.W.Frag) (X : List Addr) (H : Hp) (p pn : Addr) : Prop where
  row : Row H p
  nms : SqL K (kp X H) pn [.str "x", .str "y"]
  mem : p ∈ X
  kl : ∀ x ∈ X, ∃ xs, H x = some (.lst xs)
theorem Dn.al {K : PySem.W.Frag} {X : List Addr} {H : Hp} {p pn : Addr} (d : Dn K X H p pn) : ∀ x ∈ X, H x ≠ none := fun x hx => by
  obtain ⟨xs, e⟩ := d.kl x hx
  rw [e]
  simp
theorem kl_stay {X : List Addr} {H H' : Hp} {p : Addr} (kl : ∀ x ∈ X, ∃ xs, H x = some (.lst xs)) (s : Stay p H H') (r : Row H' p) : ∀ x ∈ X, ∃ xs, H' x = some (.lst xs) := fun x hx => by
  by_cases z : x = p
  · obtain ⟨ns, e⟩ := r
    exact ⟨_, by rw [z]; exact e⟩
  · obtain ⟨xs, e⟩ := kl x hx
    exact ⟨xs, s.all _ _ z e⟩
theorem Dn.mono {K : PySem.W.Frag} {X : List Addr} {H H' : Hp} {p pn : Addr} (d : Dn K X H p pn) (s : Stay p H H') (r : Row H' p) : Dn K X H' p pn := ⟨r, Same.sqL (s.kp d.mem) d.nms, d.mem, kl_stay d.kl s r⟩
def spSt (K : PySem.W.Frag) (n : Nat) : Sp := fun vs H Q _ => ∃ (X : List Addr) (p pn : Addr) (d : Int) (r : Nat), vs = [.ref p, .int d, .ref pn, .int (r : Int)] ∧ 0 ≤ d ∧ d < n ∧ Dn K X H p pn ∧
  ∀ b v H', Sm.ok nm2 b → b.dp ≤ d.toNat → b.cst ≤ bS d.toNat r → Stay p H H' → Row H' p → Rp K (kp X H') b.d [v] → Q v H'
def spBdy (K : PySem.W.Frag) (n : Nat) : Sp := fun vs H Q _ => ∃ (X : List Addr) (p pn : Addr) (d : Int) (r : Nat), vs = [.ref p, .int d, .ref pn, .int (r : Int)] ∧ 0 ≤ d ∧ d < n ∧ Dn K X H p pn ∧
  ∀ b v H', Bd.ok nm2 b → b.dp ≤ d.toNat → b.cst ≤ 3 * bS d.toNat r → Stay p H H' → Row H' p → Rp K (kp X H') (.lst b.row) [v] → Q v H'
theorem kp_upd {X : List Addr} {q : Addr} {H : Hp} {o : HO} (m : q ∈ X) : kp X (upd H q o) = kp X H := funext fun b => by
  by_cases e : b ∈ X
  · rw [kp_same e, kp_same e]
  · rw [kp_ne e, kp_ne e, upd_ne fun z => e (by rw [z]; exact m)]
theorem go_app2 {K : PySem.W.Frag} {σ : L2.St} {H : Hp} {to : TE} {ta : TA} {D : Ends} {p : Addr} {xs : List V} (hp : Te to σ H (.ref p)) (e : H p = some (.lst xs)) (k : ta σ H fun vs H2 => rAppend (.ref p) vs H2 fun _ H3 => D.nx σ H3) : tDrop (tBM K "list" rAppend to ta) D σ H := hp _ ⟨.inl ⟨rfl, _, SqL.of e⟩, k⟩
section
variable {P : Program} {w : World} {K : PySem.W.Frag} {mg : Str → Option Value} {base : Heap} {A : Adr}
theorem go_st {n : Nat} {σ : L2.St} {H : Hp} {ta : TA} {E : XK} {Q : VK} {X : List Addr} {p pn : Addr} {d : Int} {r : Nat} (ha : Ta ta σ H [.ref p, .int d, .ref pn, .int (r : Int)]) (d0 : 0 ≤ d) (d1 : d < n) (Dd : Dn K X H p pn)
    (k : ∀ b v H', Sm.ok nm2 b → b.dp ≤ d.toNat → b.cst ≤ bS d.toNat r → Stay p H H' → Row H' p → Rp K (kp X H') b.d [v] → Q v H') : tCall (spSt K n) [] E ta σ H Q := ha _ ⟨X, p, pn, d, r, rfl, d0, d1, Dd, k⟩
theorem go_bd {n : Nat} {σ : L2.St} {H : Hp} {ta : TA} {E : XK} {Q : VK} {X : List Addr} {p pn : Addr} {d : Int} {r : Nat} (ha : Ta ta σ H [.ref p, .int d, .ref pn, .int (r : Int)]) (d0 : 0 ≤ d) (d1 : d < n) (Dd : Dn K X H p pn)
    (k : ∀ b v H', Bd.ok nm2 b → b.dp ≤ d.toNat → b.cst ≤ 3 * bS d.toNat r → Stay p H H' → Row H' p → Rp K (kp X H') (.lst b.row) [v] → Q v H') : tCall (spBdy K n) [] E ta σ H Q := ha _ ⟨X, p, pn, d, r, rfl, d0, d1, Dd, k⟩
theorem ok_law_body {n : Nat} (T : Txt K mg A) (ihs : FnOk P w K mg base CX0 (2 * n + 10) A.a__law_statement A.d__law_statement ["row", "depth", "names", "repeats"] (spSt K n)) : FnOk P w K mg base CX0 (2 * n + 11) A.a__law_body A.d__law_body ["row", "depth", "names", "repeats"] (spBdy K n) := by
  refine T.F__law_body.ok (k := 2 * n + 10) sc_law_body (fun vs H Q E ⟨_, _, _, _, _, e, _⟩ => by rw [e]; rfl) (fun cdv A' outer s0 H vs Q E hr h => ?_)
  obtain ⟨X, p, pn, d, r, rfl, d0, d1, Dd, k⟩ := h
  refine ⟨_, pss_cons (ps_set (i := 4) sc_law_body.nd rfl (Or.inl rfl) (pe_lst pa_nil))
  (pss_cons (ps_for PassesOwn.never rfl (pi_range1 (by rfl) T.n_range (pa_cons (pe_call (ok_law_take T) (hr.mono (by omega)) rfl T.g__law_take T.F__law_take.kp T.b__law_take .nil pass0 (pa_cons (pv 0) (pa_cons (pe_int) pa_nil))) pa_nil)) (pg_name (i := 5) sc_law_body.nd rfl (Or.inl rfl))
  (pss_one (ps_expr (pe_bm PySem.F.plainAttrs_list PySem.F.slot_list_append PySem.F.type_list_append mt_append (pv 4) (pa_cons (pe_call ihs (hr.mono (by omega)) rfl T.g__law_statement T.F__law_statement.kp T.b__law_statement .nil pass0 (pa_cons (pv 0) (pa_cons (pv 1) (pa_cons (pv 2) (pa_cons (pv 3) pa_nil))))) pa_nil)))))
  (pss_one (ps_ret (pv 4)))), ?_⟩
  refine ⟨Nat.zero_le _, fun q hq => ?_⟩
  dsimp only [gName]
  refine set_sl (σ' := [some (.ref p), some (.int d), some (.ref pn), some (.int (r : Int)), some (.ref q), none]) rfl ?_
  have nqX : q ∉ X := fun m => Dd.al q m hq
  have npq : q ≠ p := fun z => nqX (by rw [z]; exact Dd.mem)
  have s1 : Stay p H (upd H q (.lst [])) := Stay.refl.new hq
  have r1 : Row (upd H q (.lst [])) p := by
    obtain ⟨ns, e⟩ := Dd.row
    exact ⟨ns, by rw [upd_ne npq.symm]; exact e⟩
  have D1 : Dn K (q :: X) (upd H q (.lst [])) p pn := by
    refine ⟨r1, Same.sqL (fun b o e => ?_) Dd.nms, List.mem_cons_of_mem _ Dd.mem, fun x hx => ?_⟩
    · obtain ⟨e1, e2, e3⟩ := kp_some e
      have nb : b ≠ q := ne_of_none e2 hq
      exact kp_at (by rw [upd_ne nb]; exact e2) (fun m => by
        rcases List.mem_cons.mp m with z | z
        · exact nb z
        · exact e1 z) e3
    · rcases List.mem_cons.mp hx with rfl | hx
      · exact ⟨[], upd_same⟩
      · exact kl_stay Dd.kl s1 r1 x hx
  have u1 : (upd H q (.lst [])) q = some (.lst []) := upd_same
  generalize upd H q (HO.lst []) = H1 at s1 r1 D1 u1 ⊢
  refine go_take (m := 4) (ta_cons (te_var rfl) (ta_cons te_c ta_nil)) r1 fun m H2 m0 m1 s2 r2 => ?_
  have u2 : H2 q = some (.lst []) := s2.all _ _ npq u1
  refine ⟨m, rfl, by omega, by omega, for_range (lo := 0) (n := m.toNat) (fun i σ H' => ∃ (v5 : Option V) (L : List Sm) (xs : List V), σ = [some (.ref p), some (.int d), some (.ref pn), some (.int (r : Int)), some (.ref q), v5] ∧ L.length = i ∧ (∀ s ∈ L, s.ok nm2 ∧ s.dp ≤ d.toNat ∧ s.cst ≤ bS d.toNat r) ∧ Stay p H H' ∧ Dn K (q :: X) H' p pn ∧ H' q = some (.lst xs) ∧ Rp K (kp (q :: X) H') (D.row (L.map Sm.d)) xs) ⟨none, [], [], rfl, rfl, fun s hs => (by cases hs), s1.trans s2, D1.mono s2 r2, u2, rfl⟩ ?_ ?_⟩
  · rintro i σ H3 hi ⟨v5, L, xs, rfl, hl, hL, s3, D3, u3, rp⟩
    have hlen : xs.length = i := by rw [row_length rp, List.length_map, hl]
    dsimp only [gName]
    refine set_sl (σ' := [some (.ref p), some (.int d), some (.ref pn), some (.int (r : Int)), some (.ref q), some (.int (0 + (i : Int)))]) rfl ?_
    refine go_app2 (te_var rfl) u3 ?_
    refine go_st (X := q :: X) (p := p) (pn := pn) (d := d) (r := r) ?_ d0 d1 D3 fun b v H4 b1 b2 b3 s4 r4 rb => ?_
    · exact ta_cons (te_var rfl) (ta_cons (te_var rfl) (ta_cons (te_var rfl) (ta_cons (te_var rfl) ta_nil)))
    · have u4 := s4.all _ _ npq u3
      have D4 := D3.mono s4 r4
      refine ⟨q, xs, v, rfl, rfl, u4, by rw [hlen, sizeLine_eq]; omega, ?_⟩
      have ek : kp (q :: X) (upd H4 q (.lst (xs ++ [v]))) = kp (q :: X) H4 := kp_upd List.mem_cons_self
      have r5 : Row (upd H4 q (.lst (xs ++ [v]))) p := by
        obtain ⟨ns, e⟩ := r4
        exact ⟨ns, by rw [upd_ne npq.symm]; exact e⟩
      refine ⟨_, L ++ [b], xs ++ [v], rfl, by rw [List.length_append, hl]; rfl, fun s hs => ?_, ⟨fun b o n e => ?_⟩, ⟨r5, by rw [ek]; exact D4.nms, D4.mem, fun x hx => ?_⟩, upd_same, ?_⟩
      · rcases List.mem_append.mp hs with h | h
        · exact hL s h
        · rw [List.mem_singleton.mp h]
          exact ⟨b1, b2, b3⟩
      · rw [upd_ne (ne_of_none e hq)]
        exact s4.all _ _ n (s3.all _ _ n e)
      · by_cases z : x = q
        · exact ⟨_, by rw [z]; exact upd_same⟩
        · rw [upd_ne z]
          exact D4.kl x hx
      · rw [ek, List.map_append]
        exact Rp.snoc (Rp.mono (s4.kp D3.mem) rp) rb
  · rintro σ H3 ⟨v5, L, xs, rfl, hl, hL, s3, D3, u3, rp⟩
    obtain ⟨g1, g2, g3⟩ := ofL_ok (P := fun _ => True) hL
    refine ret_te (te_var rfl) (k (ofL L) _ H3 g1 g2 (Nat.le_trans g3 (Nat.mul_le_mul_right _ (by omega))) s3 D3.row ⟨q, xs, rfl, SqL.of (kp_at u3 nqX fun ps z => by cases z), ?_, ?_⟩)
    · have := row_length rp
      rw [List.length_map, hl] at this
      omega
    · rw [ofL_row]
      exact Rp.mono (fun b o e => kp_at (kp_some e).2.1 (fun m => (kp_some e).1 (List.mem_cons_of_mem _ m)) (kp_some e).2.2) rp
end
end K13

namespace K13
open PySem L2 YF NdefX
section
variable {P : Program} {w : World} {K : PySem.W.Frag} {mg : Str → Option Value} {base : Heap} {A : Adr}
theorem bS_pos (d r : Nat) : 1 ≤ bS d r := by
  unfold bS
  exact Nat.mul_pos (Nat.pow_pos (by decide)) (Nat.pow_pos (by decide))
theorem stp_fit {e : Ex} {d : Int} (h : stp e + 3 ≤ 2 ^ (d.toNat + 2)) (hd : d.toNat ≤ 2) : stp e ≤ 13 := by
  have : 2 ^ (d.toNat + 2) ≤ 2 ^ 4 := Nat.pow_le_pow_right (by decide) (by omega)
  omega
theorem ok_law_statement {n : Nat} (T : Txt K mg A) (ihb : FnOk P w K mg base CX0 (2 * n + 11) A.a__law_body A.d__law_body ["row", "depth", "names", "repeats"] (spBdy K n)) : FnOk P w K mg base CX0 (2 * n + 12) A.a__law_statement A.d__law_statement ["row", "depth", "names", "repeats"] (spSt K (n + 1)) := by
  refine T.F__law_statement.ok (k := 2 * n + 11) sc_law_statement (fun vs H Q E ⟨_, _, _, _, _, e, _⟩ => by rw [e]; rfl) (fun cdv A' outer s0 H vs Q E hr h => ?_)
  obtain ⟨X, p, pn, d, r, rfl, d0, d1, Dd, k⟩ := h
  refine ⟨_, pss_cons (ps_set (i := 4) sc_law_statement.nd rfl (Or.inl rfl) (pe_call0 (ok_law_cells T) (hr.mono (by omega)) rfl T.g__law_cells T.F__law_cells.kp T.b__law_cells .nil pass0))
  (pss_cons (ps_set (i := 5) sc_law_statement.nd rfl (Or.inl rfl) (pe_call (ok_law_take T) (hr.mono (by omega)) rfl T.g__law_take T.F__law_take.kp T.b__law_take .nil pass0 (pa_cons (pv 0) (pa_cons (pe_int) pa_nil))))
  (C8.pss_cut (ps_if (PW.pt (pw_and (pt_cmpR op_eq (pv 1) (pe_int) (nomark _)) (pw_and1 (pt_cmpR op_ge (pv 5) (pe_int) (nomark _)))))
  (pss_one (ps_set (i := 5) sc_law_statement.nd rfl (Or.inl rfl) (pe_op op_sub (pv 5) (pe_int))))
  (pss_nil))
  (pss_cons (ps_if (pt_cmpR op_lt (pv 5) (pe_int) (nomark _))
  (pss_one (ps_ret (pe_tup (pa_cons (pe_str) (pa_cons (pe_ix ix_list (pv 2) (pe_call (ok_law_take T) (hr.mono (by omega)) rfl T.g__law_take T.F__law_take.kp T.b__law_take .nil pass0 (pa_cons (pv 0) (pa_cons (pe_callB call_len_seq (by rfl) T.n_len (by decide +kernel) (pa_cons (pv 2) pa_nil)) pa_nil))) (fun _ _ => rfl)) (pa_cons (pe_call (ok_law_exp T 3) (hr.mono (by omega)) rfl T.g__law_exp T.F__law_exp.kp T.b__law_exp .nil pass0 (pa_cons (pv 0) (pa_cons (pe_int) (pa_cons (pv 4) (pa_cons (pv 2) pa_nil))))) pa_nil))))))
  (pss_nil))
  (pss_cons (ps_if (pt_cmpR op_lt (pv 5) (pe_int) (nomark _))
  (pss_cons (ps_set (i := 6) sc_law_statement.nd rfl (Or.inl rfl) (pe_ix ix_tup (pe_ix ix_list (pv 4) (pe_call (ok_law_take T) (hr.mono (by omega)) rfl T.g__law_take T.F__law_take.kp T.b__law_take .nil pass0 (pa_cons (pv 0) (pa_cons (pe_int) pa_nil))) (fun _ _ => rfl)) (pe_int) (fun _ _ => rfl)))
  (pss_one (ps_ret (pe_tup (pa_cons (pe_str) (pa_cons (pv 6) (pa_cons (pe_call (ok_law_index T (ok_law_exp T 2)) (hr.mono (by omega)) rfl T.g__law_index T.F__law_index.kp T.b__law_index .nil pass0 (pa_cons (pv 0) (pa_cons (pe_int) (pa_cons (pv 4) (pa_cons (pv 2) pa_nil))))) (pa_cons (pe_call (ok_law_exp T 3) (hr.mono (by omega)) rfl T.g__law_exp T.F__law_exp.kp T.b__law_exp .nil pass0 (pa_cons (pv 0) (pa_cons (pe_int) (pa_cons (pv 4) (pa_cons (pv 2) pa_nil))))) pa_nil))))))))
  (pss_nil))
  (pss_cons (ps_if (pt_cmpR op_eq (pv 5) (pe_int) (nomark _))
  (pss_one (ps_ret (pe_tup (pa_cons (pe_str) (pa_cons (pe_call (ok_law_exp T 3) (hr.mono (by omega)) rfl T.g__law_exp T.F__law_exp.kp T.b__law_exp .nil pass0 (pa_cons (pv 0) (pa_cons (pe_int) (pa_cons (pv 4) (pa_cons (pv 2) pa_nil))))) pa_nil)))))
  (pss_nil))
  (pss_cons (ps_if (pt_cmpR op_eq (pv 5) (pe_int) (nomark _))
  (pss_one (ps_ret (pe_ix ix_list (pe_lst (pa_cons (pe_tup (pa_cons (pe_str) pa_nil)) (pa_cons (pe_tup (pa_cons (pe_str) pa_nil)) (pa_cons (pe_tup (pa_cons (pe_str) pa_nil)) pa_nil)))) (pe_call (ok_law_take T) (hr.mono (by omega)) rfl T.g__law_take T.F__law_take.kp T.b__law_take .nil pass0 (pa_cons (pv 0) (pa_cons (pe_int) pa_nil))) (fun _ _ => rfl))))
  (pss_nil))
  (pss_cons (ps_set (i := 7) sc_law_statement.nd rfl (Or.inl rfl) (pe_call ihb (hr.mono (by omega)) rfl T.g__law_body T.F__law_body.kp T.b__law_body .nil pass0 (pa_cons (pv 0) (pa_cons (pe_op op_sub (pv 1) (pe_int)) (pa_cons (pv 2) (pa_cons (pv 3) pa_nil))))))
  (pss_cons (ps_if (pt_cmpR op_lt (pv 5) (pe_int) (nomark _))
  (pss_one (ps_ret (pe_tup (pa_cons (pe_str) (pa_cons (pe_call (ok_law_exp T 3) (hr.mono (by omega)) rfl T.g__law_exp T.F__law_exp.kp T.b__law_exp .nil pass0 (pa_cons (pv 0) (pa_cons (pe_int) (pa_cons (pv 4) (pa_cons (pv 2) pa_nil))))) (pa_cons (pv 7) (pa_cons (pe_call ihb (hr.mono (by omega)) rfl T.g__law_body T.F__law_body.kp T.b__law_body .nil pass0 (pa_cons (pv 0) (pa_cons (pe_op op_sub (pv 1) (pe_int)) (pa_cons (pv 2) (pa_cons (pv 3) pa_nil))))) pa_nil)))))))
  (pss_nil))
  (pss_cons (ps_if (PW.pt (pw_and (pt_cmpR op_lt (pv 5) (pe_int) (nomark _)) (pw_and1 (pt_cmpR op_gt (pv 3) (pe_int) (nomark _)))))
  (pss_cons (ps_set (i := 8) sc_law_statement.nd rfl (Or.inl rfl) (pe_ix ix_list (pe_lst (pa_cons (pe_tup (pa_cons (pe_str) (pa_cons (pe_call (ok_law_take T) (hr.mono (by omega)) rfl T.g__law_take T.F__law_take.kp T.b__law_take .nil pass0 (pa_cons (pv 0) (pa_cons (pe_int) pa_nil))) pa_nil))) (pa_cons (pe_call (ok_law_exp T 3) (hr.mono (by omega)) rfl T.g__law_exp T.F__law_exp.kp T.b__law_exp .nil pass0 (pa_cons (pv 0) (pa_cons (pe_int) (pa_cons (pv 4) (pa_cons (pv 2) pa_nil))))) pa_nil))) (pe_callTy call_int1 (by rfl) T.n_int (by decide +kernel) (pa_cons (pe_cmpR op_eq (pe_call (ok_law_take T) (hr.mono (by omega)) rfl T.g__law_take T.F__law_take.kp T.b__law_take .nil pass0 (pa_cons (pv 0) (pa_cons (pe_int) pa_nil))) (pe_int) (nomark _)) pa_nil)) (fun _ _ => rfl)))
  (pss_one (ps_ret (pe_tup (pa_cons (pe_str) (pa_cons (pv 8) (pa_cons (pe_call ihb (hr.mono (by omega)) rfl T.g__law_body T.F__law_body.kp T.b__law_body .nil pass0 (pa_cons (pv 0) (pa_cons (pe_op op_sub (pv 1) (pe_int)) (pa_cons (pv 2) (pa_cons (pe_op op_sub (pv 3) (pe_int)) pa_nil))))) pa_nil)))))))
  (pss_nil))
  (pss_one (ps_ret (pe_tup (pa_cons (pe_str) (pa_cons (pv 7) (pa_cons (pe_call ihb (hr.mono (by omega)) rfl T.g__law_body T.F__law_body.kp T.b__law_body .nil pass0 (pa_cons (pv 0) (pa_cons (pe_op op_sub (pv 1) (pe_int)) (pa_cons (pv 2) (pa_cons (pv 3) pa_nil))))) pa_nil))))))))))))))), ?_⟩
  refine asg_call (vs := []) ta_nil ⟨rfl, fun pc H1 hpc s1 hcel => ?_⟩
  refine set_sl (σ' := [some (.ref p), some (.int d), some (.ref pn), some (.int (r : Int)), some (.ref pc), none, none, none, none]) rfl ?_
  have S1 : Stay p H H1 := .of s1
  have r1 : Row H1 p := by
    obtain ⟨ns, e⟩ := Dd.row
    exact ⟨ns, s1 _ _ e⟩
  have N1 := Dd.mono S1 r1
  have C1 : CellsIn K (kp X H1) pc cells0 := by
    obtain ⟨xs, e, q⟩ := hcel
    refine ⟨xs, SqL.of (kp_at e (fun m => Dd.al pc m hpc) fun ps z => by cases z), paired_mapP q fun c v ⟨t, ev, et⟩ => ⟨t, ev, SqT.of (kp_at et (fun m => ?_) fun ps z => by cases z)⟩⟩
    obtain ⟨xs, ex⟩ := N1.kl t m
    rw [ex] at et
    cases et
  refine go_take (m := 18) (ta_cons (te_var rfl) (ta_cons te_c ta_nil)) r1 fun c H2 c0 c1 s2 r2 => ?_
  dsimp only [gName]
  refine set_sl (σ' := [some (.ref p), some (.int d), some (.ref pn), some (.int (r : Int)), some (.ref pc), some (.int c), none, none, none]) rfl ?_
  have S2 := S1.trans s2
  have N2 := N1.mono s2 r2
  have D2 : Dr K X H2 p pc pn cells0 := ⟨r2, C1.mono (s2.kp Dd.mem), N2.nms, Dd.mem, N2.al⟩
  refine ⟨fun σ H' => ∃ c : Int, σ = [some (.ref p), some (.int d), some (.ref pn), some (.int (r : Int)), some (.ref pc), some (.int c), none, none, none] ∧ H' = H2 ∧ 0 ≤ c ∧ (9 ≤ c → 1 ≤ d), ?_, ?_⟩
  · refine if_go (b := decide (V.int d = V.int 0) && decide (9 ≤ c)) (tt_and (tt_test (te_eq (te_var rfl) te_c rfl)) fun _ => tt_test (te_i0 (te_var rfl) te_c)) (fun h => ?_) fun h => ?_
    · rw [deq_int] at h
      have h : d = 0 ∧ 9 ≤ c := by simpa using h
      exact te_i0 (te_var rfl) te_c _ ⟨c - 9, rfl, rfl, by omega, fun z => by omega⟩
    · rw [deq_int] at h
      have h : ¬ (d = 0 ∧ 9 ≤ c) := by simpa using h
      exact ⟨c, rfl, rfl, c0, fun z => by omega⟩
  · rintro σ H' ⟨c, rfl, rfl, c0, cd⟩
    have lf : ∀ {b : Sm} {H3 : Hp} {xs : List V} {ds : D}, Stay p H H3 → Row H3 p → xs.length ≤ 1000 → Rp K (kp X H3) ds xs → b.d = .tup ds → b.ok nm2 → b.dp ≤ d.toNat → b.cst ≤ bS d.toNat r → xs.length ≤ sizeLine ∧ ∀ t, H3 t = none → Q (.ref t) (upd H3 t (.tup xs)) := fun s3 r3 hl rp eb b1 b2 b3 =>
      fin_tup Dd.mem (al_stay Dd.al s3 r3) r3 s3 hl rp fun v H' g1 g2 g3 => k _ v H' b1 b2 b3 g1 g2 (by rw [eb]; exact g3)
    have p1 := bS_pos d.toNat r
    have hn2 := Same.sqL kp_sub D2.nms
    -- an expression of a depth
    have ex : ∀ {m : Nat} {j : Int} {H3 : Hp} {σ : L2.St} {ta : TA} {E : XK} {Q' : VK}, Ta ta σ H3 [.ref p, .int j, .ref pc, .ref pn] → 0 ≤ j → j < m → j ≤ 2 → Stay p H H3 → Dr K X H3 p pc pn cells0 → (∀ e v H4, e.ok ∧ okEx (okLR nm2) e ∧ stp e ≤ 13 → Stay p H H4 → Stay p H3 H4 → Row H4 p → Rp K (kp X H4) e.d [v] → Q' v H4) → tCall (spExp K m) [] E ta σ H3 Q' := fun ha j0 j1 j2 s3 D3 kk =>
      go_exp ha j0 j1 (by decide) (by decide) D3 fun e v H4 b1 b2 b3 b4 b5 b6 => kk e v H4 ⟨b1, okD_LR b2, stp_fit b3.1 (by omega)⟩ (s3.trans b4) b4 b5 b6
    refine if_seq (tt_test (te_i0 (te_var rfl) te_c)) (fun h => ?_) fun h => ?_
    · -- set
      refine ⟨_, rfl, ?_⟩
      refine go_take (m := 2) (ta_cons (te_var rfl) (ta_cons (te_len (te_var rfl) (.inl hn2)) ta_nil)) r2 fun c2 H3 a0 a1 s3 r3 => ?_
      have D3 := D2.mono s3 r3
      have S3 := S2.trans s3
      have hn3 := Same.sqL kp_sub D3.nms
      have key : ∀ x : Str, x ∈ nm2 → (tCons (tCall (spExp K 3) [] E0 (tCons (tVar 0) (tCons (tC (.int 2)) (tCons (tVar 4) (tCons (tVar 2) tNil))))) tNil) [some (.ref p), some (.int d), some (.ref pn), some (.int (r : Int)), some (.ref pc), some (.int c), none, none, none] H3
          fun vs H' => (V.str "set" :: V.str x :: vs).length ≤ sizeLine ∧ ∀ t, H' t = none → Q (.ref t) (upd H' t (.tup (V.str "set" :: V.str x :: vs))) := fun x hx => by
        refine ex (m := 3) (j := 2) (ta_cons (te_var rfl) (ta_cons te_c (ta_cons (te_var rfl) (ta_cons (te_var rfl) ta_nil)))) (by decide) (by decide) (by decide) S3 D3 fun e v H4 eo S4 s4 r4 rp => ?_
        exact lf (b := .set x e) (ds := .cons (.str "set") (.cons (.str x) (.cons e.d .nil))) S4 r4 (by show 3 ≤ 1000; decide) ⟨_, _, rfl, rfl, _, _, rfl, rfl, _, _, rfl, rp, rfl⟩ rfl ⟨hx, eo⟩ (Nat.zero_le _) (Nat.zero_le _)
      have cc : c2 = 0 ∨ c2 = 1 := by omega
      rcases cc with rfl | rfl
      · exact ⟨pn, _, _, _, rfl, rfl, hn3, rfl, key "x" (by decide)⟩
      · exact ⟨pn, _, _, _, rfl, rfl, hn3, rfl, key "y" (by decide)⟩
    refine if_seq (tt_test (te_i0 (te_var rfl) te_c)) (fun h2 => ?_) fun h2 => ?_
    · -- put
      refine ⟨_, rfl, ?_⟩
      refine go_take (m := 3) (ta_cons (te_var rfl) (ta_cons te_c ta_nil)) r2 fun c2 H3 a0 a1 s3 r3 => ?_
      have D3 := D2.mono s3 r3
      have S3 := S2.trans s3
      obtain ⟨xc, hxc, hpc3⟩ := D3.cel.ex
      have hlc : xc.length = 3 := paired_len hpc3
      obtain ⟨j, rfl⟩ : ∃ j : Nat, c2 = j := ⟨c2.toNat, by omega⟩
      have hj : j < xc.length := by omega
      obtain ⟨cl, hcl, t, et, ht⟩ := paired_at hpc3 (List.getElem?_eq_getElem hj)
      refine ⟨pc, _, _, _, rfl, rfl, Same.sqL kp_sub hxc, atI_nat (List.getElem?_eq_getElem hj), ?_⟩
      refine ⟨t, _, _, _, et, rfl, Same.sqT kp_sub ht, rfl, ?_⟩
      dsimp only [gName]
      refine set_sl (σ' := [some (.ref p), some (.int d), some (.ref pn), some (.int (r : Int)), some (.ref pc), some (.int c), some (.str cl.1), none, none]) rfl ?_
      refine ⟨_, rfl, ?_⟩
      refine ex (m := 2) (j := 1) (ta_cons (te_var rfl) (ta_cons te_c (ta_cons (te_var rfl) (ta_cons (te_var rfl) ta_nil)))) (by decide) (by decide) (by decide) S3 D3 fun i vi H4 eo S4 s4 r4 rp => ?_
      have D4 := D3.mono s4 r4
      refine ex (m := 3) (j := 2) (ta_cons (te_var rfl) (ta_cons te_c (ta_cons (te_var rfl) (ta_cons (te_var rfl) ta_nil)))) (by decide) (by decide) (by decide) S4 D4 fun e ve H5 eo2 S5 s5 r5 rp5 => ?_
      exact lf (b := .put cl.1 i e) (ds := .cons (.str "put") (.cons (.str cl.1) (.cons i.d (.cons e.d .nil)))) S5 r5 (by show 4 ≤ 1000; decide) ⟨_, _, rfl, rfl, _, _, rfl, rfl, _, _, rfl, Rp.mono (s5.kp Dd.mem) rp, _, _, rfl, rp5, rfl⟩ rfl ⟨eo, eo2⟩ (Nat.zero_le _) (Nat.zero_le _)
    refine if_seq (tt_test (te_eq (te_var rfl) te_c rfl)) (fun h3 => ?_) fun h3 => ?_
    · -- later
      refine ex (m := 3) (j := 2) (ta_cons (te_var rfl) (ta_cons te_c (ta_cons (te_var rfl) (ta_cons (te_var rfl) ta_nil)))) (by decide) (by decide) (by decide) S2 D2 fun e v H4 eo S4 s4 r4 rp => ?_
      exact lf (b := .later e) (ds := .cons (.str "later") (.cons e.d .nil)) S4 r4 (by show 2 ≤ 1000; decide) ⟨_, _, rfl, rfl, _, _, rfl, rp, rfl⟩ rfl eo (Nat.zero_le _) p1
    refine if_seq (tt_test (te_eq (te_var rfl) te_c rfl)) (fun h4 => ?_) fun h4 => ?_
    · -- a word
      have new : ∀ {H3 : Hp} {t : Addr} {o : HO}, Stay p H H3 → Row H3 p → H3 t = none → Stay p H (upd H3 t o) ∧ Row (upd H3 t o) p ∧ t ∉ X ∧ Same H3 (upd H3 t o) ∧ t ≠ p := fun s3 r3 ht => by
        obtain ⟨ns, e⟩ := id r3
        have n1 := ne_of_none e ht
        exact ⟨s3.new ht, ⟨ns, by rw [upd_ne n1]; exact e⟩, fun m => al_stay Dd.al s3 r3 _ m ht, Same.upd ht, n1.symm⟩
      refine ⟨by show 1 ≤ sizeLine; decide, fun t1 ht1 => ?_⟩
      obtain ⟨w1, x1, y1, z1, o1⟩ := new (o := .tup [.str "retry"]) S2 r2 ht1
      have u1 : (upd H' t1 (.tup [.str "retry"])) t1 = some (.tup [.str "retry"]) := upd_same
      generalize upd H' t1 (HO.tup [.str "retry"]) = Ha at w1 x1 z1 u1 ⊢
      refine ⟨by show 1 ≤ sizeLine; decide, fun t2 ht2 => ?_⟩
      obtain ⟨w2, x2, y2, z2, o2⟩ := new (o := .tup [.str "undo"]) w1 x1 ht2
      have u2 : (upd Ha t2 (.tup [.str "undo"])) t2 = some (.tup [.str "undo"]) := upd_same
      generalize upd Ha t2 (HO.tup [.str "undo"]) = Hb at w2 x2 z2 u2 ⊢
      refine ⟨by show 1 ≤ sizeLine; decide, fun t3 ht3 => ?_⟩
      obtain ⟨w3, x3, y3, z3, o3⟩ := new (o := .tup [.str "retry"]) w2 x2 ht3
      have u3 : (upd Hb t3 (.tup [.str "retry"])) t3 = some (.tup [.str "retry"]) := upd_same
      generalize upd Hb t3 (HO.tup [.str "retry"]) = Hc at w3 x3 z3 u3 ⊢
      refine ⟨by show 3 ≤ sizeLine; decide, fun l hl => ?_⟩
      obtain ⟨w4, x4, y4, z4, o4⟩ := new (o := .lst [.ref t1, .ref t2, .ref t3]) w3 x3 hl
      have u4 : (upd Hc l (.lst [.ref t1, .ref t2, .ref t3])) l = some (.lst [.ref t1, .ref t2, .ref t3]) := upd_same
      generalize upd Hc l (HO.lst [.ref t1, .ref t2, .ref t3]) = Hd at w4 x4 z4 u4 ⊢
      refine go_take (m := 3) (ta_cons (te_var rfl) (ta_cons te_c ta_nil)) x4 fun c3 He b0 b1 se re => ?_
      have fw : ∀ {t : Addr} {z : Str}, t ∉ X → t ≠ p → Hd t = some (.tup [.str z]) → z ∈ (["retry", "undo"] : List Str) → Q (.ref t) He := fun {t z} nX np e hz => k (.word z) _ He hz (Nat.zero_le _) (Nat.zero_le _) (w4.trans se) re ⟨t, _, rfl, SqT.of (kp_at (se.all _ _ np e) nX fun ps q => by cases q), by show 1 ≤ 100000; decide, _, _, rfl, rfl, rfl⟩
      have hx := SqL.of (K := K) (se.all _ _ o4 u4)
      have cc : c3 = 0 ∨ c3 = 1 ∨ c3 = 2 := by omega
      rcases cc with rfl | rfl | rfl
      · exact ⟨l, _, _, _, rfl, rfl, hx, rfl, fw y1 o1 (z4 _ _ (z3 _ _ (z2 _ _ u1))) (by decide)⟩
      · exact ⟨l, _, _, _, rfl, rfl, hx, rfl, fw y2 o2 (z4 _ _ (z3 _ _ u2)) (by decide)⟩
      · exact ⟨l, _, _, _, rfl, rfl, hx, rfl, fw y3 o3 (z4 _ _ u3) (by decide)⟩
    have c9 : 9 ≤ c := by
      rw [deq_int] at h3 h4
      have h1 := of_decide_eq_false h
      have h2 := of_decide_eq_false h2
      have h3 := of_decide_eq_false h3
      have h4 := of_decide_eq_false h4
      omega
    have dp := cd c9
    have bup : bS d.toNat r = 6 * bS (d - 1).toNat r := by
      have e : d.toNat = (d - 1).toNat + 1 := by omega
      unfold bS
      rw [e, Nat.pow_succ]
      rw [Nat.mul_comm (6 ^ _) 6, Nat.mul_assoc]
    refine go_bd (X := X) (p := p) (pn := pn) (d := d - 1) (r := r) ?_ (by omega) (by omega) N2 fun fb vf H3 f1 f2 f3 s3 r3 rpf => ?_
    · exact ta_cons (te_var rfl) (ta_cons (te_i0 (te_var rfl) te_c) (ta_cons (te_var rfl) (ta_cons (te_var rfl) ta_nil)))
    · dsimp only [gName]
      refine set_sl (σ' := [some (.ref p), some (.int d), some (.ref pn), some (.int (r : Int)), some (.ref pc), some (.int c), none, some vf, none]) rfl ?_
      have D3 := D2.mono s3 r3
      have N3 := N2.mono s3 r3
      have S3 := S2.trans s3
      have ed : (d - 1).toNat + 1 = d.toNat := by omega
      refine if_seq (tt_test (te_i0 (te_var rfl) te_c)) (fun h5 => ?_) fun h5 => ?_
      · -- if
        refine ex (m := 3) (j := 2) (ta_cons (te_var rfl) (ta_cons te_c (ta_cons (te_var rfl) (ta_cons (te_var rfl) ta_nil)))) (by decide) (by decide) (by decide) S3 D3 fun e ve H4 eo S4 s4 r4 rp => ?_
        refine ⟨_, rfl, ?_⟩
        refine go_bd (X := X) (p := p) (pn := pn) (d := d - 1) (r := r) ?_ (by omega) (by omega) (N3.mono s4 r4) fun gb vg H5 g1 g2 g3 s5 r5 rpg => ?_
        · exact ta_cons (te_var rfl) (ta_cons (te_i0 (te_var rfl) te_c) (ta_cons (te_var rfl) (ta_cons (te_var rfl) ta_nil)))
        · refine lf (b := .cond e fb gb) (ds := .cons (.str "if") (.cons e.d (.cons (.lst fb.row) (.cons (.lst gb.row) .nil)))) (S4.trans s5) r5 (by show 4 ≤ 1000; decide) ⟨_, _, rfl, rfl, _, _, rfl, Rp.mono (s5.kp Dd.mem) rp, _, _, rfl, Rp.mono ((s4.trans s5).kp Dd.mem) rpf, _, _, rfl, rpg, rfl⟩ rfl ⟨eo, f1, g1⟩ ?_ ?_
          · show max fb.dp gb.dp + 1 ≤ _
            omega
          · show fb.cst + gb.cst ≤ _
            omega
      refine if_seq (b := decide (c < 14) && decide ((r : Int) > 0)) (tt_and (tt_test (te_i0 (te_var rfl) te_c)) fun _ => tt_test (te_i0 (te_var rfl) te_c)) (fun h6 => ?_) fun h6 => ?_
      · -- repeat
        have hr0 : 0 < r := by
          have h : c < 14 ∧ 0 < r := by simpa using h6
          exact h.2
        have er : ((r - 1 : Nat) : Int) = (r : Int) - 1 := by omega
        have bur : bS (d - 1).toNat r = 10 * bS (d - 1).toNat (r - 1) := by
          have e : r = (r - 1) + 1 := by omega
          unfold bS
          rw [e, Nat.pow_succ]
          have e2 : r - 1 + 1 - 1 = r - 1 := by omega
          rw [e2, ← Nat.mul_assoc, Nat.mul_comm _ 10]
        refine go_take (m := 4) (ta_cons (te_var rfl) (ta_cons te_c ta_nil)) r3 fun m1 H4 _ _ s4 r4 => ?_
        refine ⟨by show 2 ≤ sizeLine; decide, fun t1 ht1 => ?_⟩
        have N4 := N3.mono s4 r4
        have nX1 : t1 ∉ X := fun m => N4.al t1 m ht1
        have np1 : t1 ≠ p := fun z => nX1 (by rw [z]; exact Dd.mem)
        have s5 : Stay p H4 (upd H4 t1 (.tup [.str "number", .int m1])) := Stay.refl.new ht1
        have r5 : Row (upd H4 t1 (.tup [.str "number", .int m1])) p := by
          obtain ⟨ns, e⟩ := r4
          exact ⟨ns, by rw [upd_ne np1.symm]; exact e⟩
        have u1 : (upd H4 t1 (.tup [.str "number", .int m1])) t1 = some (.tup [.str "number", .int m1]) := upd_same
        generalize upd H4 t1 (HO.tup [.str "number", .int m1]) = H5 at s5 r5 u1 ⊢
        have S5 := (S3.trans s4).trans s5
        have D5 := (D3.mono s4 r4).mono s5 r5
        have N5 := N4.mono s5 r5
        refine ex (m := 3) (j := 1) (ta_cons (te_var rfl) (ta_cons te_c (ta_cons (te_var rfl) (ta_cons (te_var rfl) ta_nil)))) (by decide) (by decide) (by decide) S5 D5 fun e ve H6 eo S6 s6 r6 rp => ?_
        refine ⟨by show 2 ≤ sizeLine; decide, fun l hl => ?_⟩
        have N6 := N5.mono s6 r6
        have nXl : l ∉ X := fun m => N6.al l m hl
        have npl : l ≠ p := fun z => nXl (by rw [z]; exact Dd.mem)
        have s7 : Stay p H6 (upd H6 l (.lst [.ref t1, ve])) := Stay.refl.new hl
        have r7 : Row (upd H6 l (.lst [.ref t1, ve])) p := by
          obtain ⟨ns, e⟩ := r6
          exact ⟨ns, by rw [upd_ne npl.symm]; exact e⟩
        have u7 : (upd H6 l (.lst [.ref t1, ve])) l = some (.lst [.ref t1, ve]) := upd_same
        generalize upd H6 l (HO.lst [.ref t1, ve]) = H7 at s7 r7 u7 ⊢
        refine go_take (m := 4) (ta_cons (te_var rfl) (ta_cons te_c ta_nil)) r7 fun m2 H8 _ _ s8 r8 => ?_
        have S8 := (S6.trans s7).trans s8
        have N8 := (N6.mono s7 r7).mono s8 r8
        have hx := SqL.of (K := K) (s8.all _ _ npl u7)
        have key : ∀ (cx : Ex) (vc : V), cx.ok ∧ okEx (okLR nm2) cx ∧ stp cx ≤ 13 → Rp K (kp X H8) cx.d [vc] → tRet (tTup (tCons (tC (.str "repeat")) (tCons (tVar 8) (tCons (tCall (spBdy K n) [] E0 (tCons (tVar 0) (tCons (tOp (rI0 fun i j => .int (i - j)) (tVar 1) (tC (.int 1))) (tCons (tVar 2) (tCons (tOp (rI0 fun i j => .int (i - j)) (tVar 3) (tC (.int 1))) tNil))))) tNil)))) { nx := fun _ H' => Q V.non H', rt := Q } [some (.ref p), some (.int d), some (.ref pn), some (.int (r : Int)), some (.ref pc), some (.int c), none, some vf, some vc] H8 := fun cx vc oc rc => by
          refine ⟨_, rfl, ?_⟩
          refine go_bd (X := X) (p := p) (pn := pn) (d := d - 1) (r := r - 1) ?_ (by omega) (by omega) N8 fun gb vg H9 g1 g2 g3 s9 r9 rpg => ?_
          · rw [er]
            exact ta_cons (te_var rfl) (ta_cons (te_i0 (te_var rfl) te_c) (ta_cons (te_var rfl) (ta_cons (te_i0 (te_var rfl) te_c) ta_nil)))
          · refine lf (b := .rep cx gb) (ds := .cons (.str "repeat") (.cons cx.d (.cons (.lst gb.row) .nil))) (S8.trans s9) r9 (by show 3 ≤ 1000; decide) ⟨_, _, rfl, rfl, _, _, rfl, Rp.mono (s9.kp Dd.mem) rc, _, _, rfl, rpg, rfl⟩ rfl ⟨oc, g1⟩ ?_ ?_
            · show gb.dp + 1 ≤ _
              omega
            · show 20 * gb.cst ≤ _
              omega
        have k1 := key (.num m1) (.ref t1) ⟨trivial, trivial, by show 1 ≤ 13; decide⟩ ⟨t1, _, rfl, SqT.of (kp_at (s8.all _ _ np1 (s7.all _ _ np1 (s6.all _ _ np1 u1))) nX1 fun ps z => by cases z), by show 2 ≤ 100000; decide, _, _, rfl, rfl, _, _, rfl, rfl, rfl⟩
        have k2 := key e ve eo (Rp.mono ((s7.trans s8).kp Dd.mem) rp)
        refine ⟨rfl, .inr ⟨_, rfl, ?_⟩⟩
        cases q : decide (V.int m2 = V.int 0) with
        | true => exact ⟨l, _, _, _, rfl, rfl, hx, rfl, k2⟩
        | false => exact ⟨l, _, _, _, rfl, rfl, hx, rfl, k1⟩
      · -- choose
        refine ⟨_, rfl, ?_⟩
        refine go_bd (X := X) (p := p) (pn := pn) (d := d - 1) (r := r) ?_ (by omega) (by omega) N3 fun gb vg H5 g1 g2 g3 s5 r5 rpg => ?_
        · exact ta_cons (te_var rfl) (ta_cons (te_i0 (te_var rfl) te_c) (ta_cons (te_var rfl) (ta_cons (te_var rfl) ta_nil)))
        · refine lf (b := .choose fb gb) (ds := .cons (.str "choose") (.cons (.lst fb.row) (.cons (.lst gb.row) .nil))) (S3.trans s5) r5 (by show 3 ≤ 1000; decide) ⟨_, _, rfl, rfl, _, _, rfl, Rp.mono (s5.kp Dd.mem) rpf, _, _, rfl, rpg, rfl⟩ rfl ⟨f1, g1⟩ ?_ ?_
          · show max fb.dp gb.dp + 1 ≤ _
            omega
          · show fb.cst + gb.cst ≤ _
            omega
theorem ok_law_bodies (T : Txt K mg A) : ∀ n : Nat, FnOk P w K mg base CX0 (2 * n + 11) A.a__law_body A.d__law_body ["row", "depth", "names", "repeats"] (spBdy K n) := by
  intro n
  induction n with
  | zero => exact ⟨fun vs H Q E ⟨_, _, _, _, _, e, _⟩ => by rw [e]; rfl, fun A' outer s H args us vs Q E hr e0 hb r ⟨_, _, _, _, _, e, h0, h1, _⟩ => by omega⟩
  | succ n ih => exact ok_law_body T (ok_law_statement T ih)
end
end K13

set_option linter.all false
set_option maxHeartbeats 2000000
/-! != of two equal tuples whose items are lists and dicts; `is` of truth values -/
namespace YF
open PySem PySem.SeqAt L2
open AutoSeq1 (wpAny_loadPart')
open MeetsSeq MeetsSeq2 MeetsSeq3 SeqRoads2
section
variable {prog : Program} {w : World}
/-- no pair differs: the walk over the pairs ends with nothing found -/
theorem tuples_alike (l b : Addr) (us vs : Array Value) (n n2 : Nat) (dd dd2 : Option Addr) (sl sl2 : Array (Option Value)) (hsz : us.size = vs.size) :
    MeetsIn prog w (Builtin.«tuple.__ne__» ⟨[.ref l, .ref b], []⟩)
      (fun A R s => s.heap.get? l = some { cls := .type "tuple", dict := dd, data := .seq us n, slots := sl } ∧ s.heap.get? b = some { cls := .type "tuple", dict := dd2, data := .seq vs n2, slots := sl2 } ∧
        (∀ p ∈ us.toList.zip vs.toList, EqP prog w A.in1 s p.1 p.2 true) ∧ R (.ok (.ret (.bool false))) s) :=
  .of_wp fun A R s h => by
    obtain ⟨hp, g, d, tk, os⟩ := s
    obtain ⟨hl, hb, he, h⟩ := h
    have f2 := AutoSeq1.sub_tuple_tuple
    wp_walk using wpAny_loadPart' hl, wpAny_loadPart' hb, wpAny_forIn_list _ (fun rest c s' => c.1 = none ∧ s' = ⟨hp, g, d, tk, os⟩ ∧ ∀ p ∈ rest, p ∈ us.toList.zip vs.toList) _
    case turn =>
      rintro ⟨y, x⟩ rest c s' ⟨hc, rfl, hr⟩
      refine wpAny_bind (he _ (hr _ List.mem_cons_self) _ _ ?_)
      wp_walk
      exact ⟨rfl, rfl, fun p hm => hr p (List.mem_cons_of_mem _ hm)⟩
    case fin =>
      rintro ⟨b1, b2⟩ s' ⟨hc, rfl, hr⟩
      simp only at hc
      subst hc
      wp_walk
      exact ⟨_, rfl, by simpa [Builtin.Tuple.tupleCompareSizes, bne, hsz] using h⟩
    case h =>
      exact ⟨rfl, rfl, fun p hm => hm⟩
theorem ne_tuples {A : Around} {s : Shared} {l b : Addr} {us vs : Array Value} {E Q : Value → Shared → Prop} (hl : s.heap.IsTuple l us) (hb : s.heap.IsTuple b vs) (hsz : us.size = vs.size) (hu : A.units < cLine)
    (he : ∀ p ∈ us.toList.zip vs.toList, EqP prog w A.in1 s p.1 p.2 true) (h : Q (.bool false) s) : wpAny (model prog w) A (richCompare .NotEq (.ref l) (.ref b)) Q E s := by
  obtain ⟨⟨cls, dd, data, sl⟩, ho, hc, n, hd⟩ := id hl
  obtain ⟨⟨cls2, dd2, data2, sl2⟩, ho2, hc2, n2, hd2⟩ := id hb
  simp only at hc hd hc2 hd2
  subst hc hd hc2 hd2
  have ta : s.TypeIs (.ref l) "tuple" := ⟨_, ho, rfl⟩
  have tb : s.TypeIs (.ref b) "tuple" := ⟨_, ho2, rfl⟩
  exact wpAny_richCompare_same_room (op := .NotEq) ta tb F.slot_tuple_ne (call_meetsIn F.slot_tuple_ne ta F.entry_tuple_ne (F.args_tuple_ne_2 _ _) (tuples_alike l b us vs n n2 dd dd2 sl sl2 hsz)
    ⟨ho, ho2, he, show Value.bool false ≠ Value.notImplemented ∧ Q (.bool false) s from ⟨(fun x => nomatch x), h⟩⟩) hu
end
section
variable {X : Cx}
theorem zip_run {F : V → V → Prop} {E : Value → Value → Prop} (ih : ∀ x y v u, F x y → RelV x v → RelV y u → E v u) {xs ys : List V} (hp : Paired F xs ys) : ∀ {us ws : List Value}, Vals xs us → Vals ys ws → ∀ p ∈ us.zip ws, E p.1 p.2 := by
  induction hp with
  | nil =>
    intro us ws r1 r2 p hm
    cases r1
    cases hm
  | cons h _ k =>
    intro us ws r1 r2 p hm
    cases r1 with
    | cons a1 b1 =>
      cases r2 with
      | cons a2 b2 =>
        rcases List.mem_cons.mp hm with e | e
        · rw [e]
          exact ih _ _ _ _ h a1 a2
        · exact k b1 b2 p e
/-- a != b, two tuples that are equal -/
def rNeT (K : PySem.W.Frag) : R2 := fun x y H Q => ∃ a b xs ys, x = .ref a ∧ y = .ref b ∧ SqT K H a xs ∧ SqT K H b ys ∧ Paired (EqV K H 9) xs ys ∧ Q (.bl false) H
theorem op_neT (hu : X.A.units + 64 < cLine) : OpR X (compareOp .NotEq) (rNeT X.K) := by
  intro pins s σ H x y v u Q I rx ry h
  obtain ⟨a, b, xs, ys, rfl, rfl, ha, hb, hp, q⟩ := h
  cases (show v = Value.ref a from rx)
  cases (show u = Value.ref b from ry)
  obtain ⟨us, r1, p1, _⟩ := I.tuple ha
  obtain ⟨ws, r2, p2, _⟩ := I.tuple hb
  have hsz : us.toArray.size = ws.toArray.size := by
    rw [List.size_toArray, List.size_toArray, ← r1.length, ← r2.length]
    exact Paired.length hp
  show wpAny _ _ (richCompare .NotEq (Value.ref a) (Value.ref b)) _ _ _
  exact ne_tuples (show s.heap.IsTuple a us.toArray from p1) (show s.heap.IsTuple b ws.toArray from p2) hsz (by omega) (fun p hm => zip_run (E := fun v u => EqP X.prog X.w X.A.in1 s v u true) (fun x y v u e r r' => eqV_run I 9 X.A.in1 (by show X.A.units + 1 + 9 < cLine; omega) x y v u e r r') hp r1 r2 p (by simpa using hm)) ⟨.bl false, H, I, rfl, q⟩
/-- x is b, truth values -/
def rIsB : R2 := fun x y H Q => ∃ a b, x = .bl a ∧ y = .bl b ∧ Q (.bl (decide (a = b))) H
def rNotB : R2 := fun x y H Q => ∃ a b, x = .bl a ∧ y = .bl b ∧ Q (.bl (!decide (a = b))) H
theorem same_bool {M : Model} {A : Around} {E : Value → Shared → Prop} {R : Bool → Shared → Prop} {s : Shared} {a b : Bool} (q : R (decide (a = b)) s) : wpAny M A (isSame (.bool a) (.bool b)) R E s :=
  wpAny_isSame_plain rfl (by
    have e : (Value.bool a == Value.bool b) = decide (a = b) := by cases a <;> cases b <;> rfl
    rw [e]
    exact q)
theorem op_isB : OpR X (compareOp .Is) rIsB := by
  intro pins s σ H x y v u Q I rx ry h
  obtain ⟨a, b, rfl, rfl, q⟩ := h
  cases (show v = Value.bool a from rx)
  cases (show u = Value.bool b from ry)
  show wpAny _ _ ((isSame (Value.bool a) (Value.bool b)) >>= fun z => pure (Value.bool z)) _ _ s
  exact wpAny_bind (same_bool (wpAny_pure (fin_bl I q rfl)))
theorem op_notB : OpR X (compareOp .IsNot) rNotB := by
  intro pins s σ H x y v u Q I rx ry h
  obtain ⟨a, b, rfl, rfl, q⟩ := h
  cases (show v = Value.bool a from rx)
  cases (show u = Value.bool b from ry)
  show wpAny _ _ ((isSame (Value.bool a) (Value.bool b)) >>= fun z => pure (Value.bool (!z))) _ _ s
  exact wpAny_bind (same_bool (wpAny_pure (fin_bl I q rfl)))
end
end YF

namespace K13
open PySem L2 YF YG NdefX
section
variable {P : Program} {w : World} {K : PySem.W.Frag} {mg : Str → Option Value} {base : Heap} {A : Adr}
theorem Stay.wr {p a : Addr} {H H' : Hp} {o : HO} (s : Stay p H H') (h : H a = none) : Stay p H (upd H' a o) := ⟨fun b u n q => by
  rw [upd_ne (ne_of_none q h)]
  exact s.all b u n q⟩
def spMem : Sp := fun vs H Q _ => ∃ p : Addr, vs = [.ref p] ∧ Row H p ∧ ∀ q (ms : List Int) H', H q = none → Stay p H H' → Row H' p → H' q = some (.lst (ms.map V.int)) → ms.length = 6 → (∀ m ∈ ms, InR m) → Q (.ref q) H'
theorem ok_law_memory (T : Txt K mg A) : FnOk P w K mg base CX0 3 A.a__law_memory A.d__law_memory ["row"] spMem := by
  refine T.F__law_memory.ok sc_law_memory (fun vs H Q E ⟨_, e, _⟩ => by rw [e]; rfl) (fun cdv A' outer s0 H vs Q E hr h => ?_)
  obtain ⟨p, rfl, hp, k⟩ := h
  refine ⟨_, pss_one (ps_ret (pe_lc (own := [("k", 1)]) (g := gName 1) (tt := tYes) rfl sc_law_memory.nd (pi_range1 (by rfl) T.n_range (pa_cons (pe_int) pa_nil)) (blkOk_by (N := ["row", "k"]) (sc := defScope s_law_memory) (by decide +kernel)) (fun _ _ _ _ _ => pg_name (i := 1) sc_law_memory.nd rfl (Or.inl rfl)) (fun _ _ _ _ _ => pts_nil) (fun _ _ _ _ _ => pe_call (ok_law_number T) (hr.mono (by decide)) rfl T.g__law_number T.F__law_number.kp T.b__law_number .nil pass0 (pa_cons (pv 0) pa_nil)))), ?_⟩
  have hne : ∀ {a : Addr}, H a = none → a ≠ p := fun {a} h z => by
    obtain ⟨ns, e⟩ := hp
    rw [z, e] at h
    cases h
  refine ret_un (lc_go (ti_rng (m := 6) te_c (by decide) (by decide)) walk_range (fun L i H' => ∃ ms : List Int, H' L = some (.lst (ms.map V.int)) ∧ ms.length = i ∧ (∀ m ∈ ms, InR m) ∧ Stay p H H' ∧ Row H' p) (fun L hL => ⟨[], upd_same, rfl, (fun m hm => nomatch hm), Stay.refl.wr hL, ?_⟩) (fun _ _ _ _ _ => trivial) ?_ fun L H' hL ⟨ms, e1, e2, e3, e4, e5⟩ => k L ms H' hL e4 e5 e1 e2 e3)
  · obtain ⟨ns, e⟩ := hp
    exact ⟨ns, by rw [upd_ne (hne hL).symm]; exact e⟩
  · rintro L i x H1 H' hL hi ⟨ms, e1, e2, e3, e4, e5⟩ ⟨rfl, rfl⟩
    dsimp only [gName]
    refine ⟨rfl, yes_go ?_⟩
    refine go_number (ta_cons (te_var rfl) ta_nil) e5 fun n H2 hn s2 r2 => ?_
    have a2 := s2.all _ _ (hne hL) e1
    refine ⟨_, a2, ?_, ms ++ [n], ?_, by rw [List.length_append, e2]; rfl, fun m hm => ?_, (e4.trans s2).wr hL, ?_⟩
    · rw [List.length_map, e2, sizeLine_eq]
      have : i < 6 := hi
      omega
    · rw [upd_same, List.map_append]
      rfl
    · rcases List.mem_append.mp hm with q | q
      · exact e3 m q
      · rw [List.mem_singleton.mp q]
        exact hn
    · obtain ⟨ns, e⟩ := r2
      exact ⟨ns, by rw [upd_ne (hne hL).symm]; exact e⟩
end
end K13

namespace K13
open PySem L2 YF
def RzT : Rz → List V → Prop
  | .ok n, xs => ∃ s : Str, xs = [.int n, .str s]
  | .er r, xs => xs = [.non, .str r]
theorem chk_in {n : Int} (h : InR n) : chk n = .ok n := if_pos h
def placeL : List Cl → Str → Int → Int → Option Int
  | [], _, _, _ => none
  | c :: r, nm, i, a => if c.1 = nm ∧ 0 ≤ i ∧ i < c.2.1 then some (a + i) else placeL r nm i (a + c.2.1)
theorem placeL_cons {c : Cl} {r : List Cl} {nm : Str} {i a : Int} : placeL (c :: r) nm i a = if c.1 = nm ∧ 0 ≤ i ∧ i < c.2.1 then some (a + i) else placeL r nm i (a + c.2.1) := rfl
theorem placeL_no : ∀ {cs : List Cl} {nm : Str} {i a : Int}, nm ∉ cs.map (·.1) → placeL cs nm i a = none
  | [], _, _, _, _ => rfl
  | c :: r, nm, i, a, h => by
    rw [placeL_cons, if_neg fun q => h (by rw [List.map_cons, q.1]; exact List.mem_cons_self)]
    exact placeL_no fun q => h (by rw [List.map_cons]; exact List.mem_cons_of_mem _ q)
theorem placeL_eq : ∀ {cs : List Cl} {nm : Str} {i a : Int}, (cs.map (·.1)).Nodup → placeL cs nm i a = place cs nm i a
  | [], _, _, _, _ => rfl
  | c :: r, nm, i, a, h => by
    rw [List.map_cons, List.nodup_cons] at h
    rw [placeL_cons, place_cons]
    by_cases q : c.1 = nm
    · rw [if_pos q]
      by_cases q2 : i < 0 ∨ c.2.1 ≤ i
      · rw [if_pos q2, if_neg fun z => by omega]
        exact placeL_no (by rw [← q]; exact h.1)
      · rw [if_neg q2, if_pos ⟨q, by omega, by omega⟩]
    · rw [if_neg q, if_neg fun z => q z.1]
      exact placeL_eq h.2
def optV : Option Int → V
  | some n => .int n
  | none => .non
section
variable {P : Program} {w : World} {K : PySem.W.Frag} {mg : Str → Option Value} {base : Heap} {A : Adr}
theorem te_chain {σ : L2.St} {H : Hp} {ta tb tc : TE} {i j l : Int} {p q : Int → Int → Bool} (ha : Te ta σ H (.int i)) (hb : Te tb σ H (.int j)) (hc : Te tc σ H (.int l)) : Te (tChain (rI0 fun i j => .bl (p i j)) (rI0 fun i j => .bl (q i j)) ta tb tc) σ H (.bl (p i j && q j l)) := fun Q k =>
  ha _ (hb _ ⟨i, j, rfl, rfl, _, rfl, by
    cases h : p i j with
    | true =>
      rw [if_pos rfl]
      rw [h] at k
      exact hc _ ⟨j, l, rfl, rfl, k⟩
    | false =>
      rw [if_neg (by decide)]
      rw [h] at k
      exact k⟩)
theorem ret_tup2 {σ : L2.St} {H : Hp} {ta tb : TE} {x y : V} {D : Ends} (ha : Te ta σ H x) (hb : Te tb σ H y) (k : [x, y].length ≤ sizeLine ∧ ∀ t, H t = none → D.rt (.ref t) (upd H t (.tup [x, y]))) : tRet (tTup (tCons ta (tCons tb tNil))) D σ H := ha _ (hb _ k)
def inV? (n : Int) : V := if InR n then .int n else .non
def spInRange : Sp := fun vs H Q _ => ∃ n : Int, vs = [.int n] ∧ Q (inV? n) H
theorem ok_law_in_range (T : Txt K mg A) : FnOk P w K mg base CX0 1 A.a__law_in_range A.d__law_in_range ["number"] spInRange := by
  refine T.F__law_in_range.ok sc_law_in_range (fun vs H Q E ⟨_, e, _⟩ => by rw [e]; rfl) (fun cdv A' outer s0 H vs Q E hr h => ?_)
  obtain ⟨n, rfl, k⟩ := h
  refine ⟨_, pss_cons (ps_if (pt_chain op_le op_le (pe_un un_neg pe_int) (pv 0) (pe_int))
  (pss_one (ps_ret (pv 0)))
  (pss_nil))
  (pss_one (ps_ret (pe_non))), ?_⟩
  unfold inV? at k
  refine if_seq (tt_test (te_chain (p := fun i j => decide (i ≤ j)) (q := fun i j => decide (i ≤ j)) (te_neg te_c) (te_var rfl) te_c)) (fun h => ?_) fun h => ?_
  · have h : InR n := by simpa [InR] using h
    rw [if_pos h] at k
    exact ret_te (te_var rfl) k
  · have h : ¬ InR n := by simpa [InR] using h
    rw [if_neg h] at k
    exact ret_te te_c k
theorem te_inr {σ : L2.St} {H : Hp} {ta : TA} {n : Int} {E : XK} (ha : Ta ta σ H [.int n]) : Te (tCall spInRange [] E ta) σ H (inV? n) := te_call ha fun Q q => ⟨n, rfl, q⟩
def resTwo (k : Str) (a b : Int) : Rz := match f2 k a b with
  | some n => chk n
  | none => .er "zero"
def spTwoL : Sp := fun vs H Q _ => ∃ (k : Str) (a b : Int), vs = [.str k, .int a, .int b] ∧ InR a ∧ InR b ∧ k ∈ Ex.words2 ∧ ¬ logic k ∧ ∀ t H' xs, Same H H' → H' t = some (.tup xs) → RzT (resTwo k a b) xs → Q (.ref t) H'
theorem fin_two {H : Hp} {z : Rz} {xs : List V} {Q : VK} {H2 : Hp} (s : Same H H2) (hl : xs.length ≤ 1000) (r : RzT z xs) (k : ∀ t H' xs, Same H H' → H' t = some (.tup xs) → RzT z xs → Q (.ref t) H') : xs.length ≤ sizeLine ∧ ∀ t, H2 t = none → Q (.ref t) (upd H2 t (.tup xs)) :=
  ⟨Nat.le_trans hl (by decide), fun t ht => k _ _ _ (s.trans (Same.upd ht)) upd_same r⟩
theorem rz_chk {n : Int} {s : Str} (h : s = "range") : RzT (chk n) [inV? n, .str s] := by
  rw [h]
  unfold chk inV?
  by_cases q : InR n
  · rw [if_pos q, if_pos q]
    exact ⟨_, rfl⟩
  · rw [if_neg q, if_neg q]
    rfl
theorem tin_go {σ : L2.St} {H : Hp} {te : TE} {tl : TA} {x : Str} {zs : List Str} {Q : VK} (ha : Te te σ H (.str x)) (hl : Ta tl σ H (zs.map V.str)) (hz : zs.length ≤ 1000) (k : ∀ p, H p = none → Q (.bl (decide (x ∈ zs))) (upd H p (.lst (zs.map V.str)))) : tOp (rIn K false) te (tLst tl) σ H Q :=
  ha _ (hl _ ⟨by rw [List.length_map]; exact Nat.le_trans hz (by decide), fun p hp => ⟨p, _, rfl, .inl (SqL.of upd_same), rfl, all_flat zs, by rw [inV_str]; exact k p hp⟩⟩)
theorem ok_law_two (T : Txt K mg A) : FnOk P w K mg base CX0 2 A.a__law_two A.d__law_two ["kind", "first", "second"] spTwoL := by
  refine T.F__law_two.ok sc_law_two (fun vs H Q E ⟨_, _, _, e, _⟩ => by rw [e]; rfl) (fun cdv A' outer s0 H vs Q E hr h => ?_)
  obtain ⟨x, a, b, rfl, ra, rb, hx, hnl, k⟩ := h
  refine ⟨_, pss_cons (ps_if (pt_cmpR op_eq (pv 0) (pe_str) (nomark _))
  (pss_one (ps_ret (pe_tup (pa_cons (pe_call (ok_law_in_range T) (hr.mono (by decide)) rfl T.g__law_in_range T.F__law_in_range.kp T.b__law_in_range .nil pass0 (pa_cons (pe_op op_add (pv 1) (pv 2)) pa_nil)) (pa_cons (pe_str) pa_nil)))))
  (pss_nil))
  (pss_cons (ps_if (pt_cmpR op_eq (pv 0) (pe_str) (nomark _))
  (pss_one (ps_ret (pe_tup (pa_cons (pe_call (ok_law_in_range T) (hr.mono (by decide)) rfl T.g__law_in_range T.F__law_in_range.kp T.b__law_in_range .nil pass0 (pa_cons (pe_op op_sub (pv 1) (pv 2)) pa_nil)) (pa_cons (pe_str) pa_nil)))))
  (pss_nil))
  (pss_cons (ps_if (pt_cmpR op_eq (pv 0) (pe_str) (nomark _))
  (pss_one (ps_ret (pe_tup (pa_cons (pe_call (ok_law_in_range T) (hr.mono (by decide)) rfl T.g__law_in_range T.F__law_in_range.kp T.b__law_in_range .nil pass0 (pa_cons (pe_op op_mul (pv 1) (pv 2)) pa_nil)) (pa_cons (pe_str) pa_nil)))))
  (pss_nil))
  (pss_cons (ps_if (pt_cmpR op_in_seq (pv 0) (pe_lst (pa_cons (pe_str) (pa_cons (pe_str) pa_nil))) (by rfl))
  (pss_cons (ps_if (pt_cmpR op_eq (pv 2) (pe_int) (nomark _))
  (pss_one (ps_ret (pe_tup (pa_cons (pe_non) (pa_cons (pe_str) pa_nil)))))
  (pss_nil))
  (pss_cons (ps_if (pt_cmpR op_eq (pv 0) (pe_str) (nomark _))
  (pss_one (ps_ret (pe_tup (pa_cons (pe_call (ok_law_in_range T) (hr.mono (by decide)) rfl T.g__law_in_range T.F__law_in_range.kp T.b__law_in_range .nil pass0 (pa_cons (pe_op op_fdivN (pv 1) (pv 2)) pa_nil)) (pa_cons (pe_str) pa_nil)))))
  (pss_nil))
  (pss_one (ps_ret (pe_tup (pa_cons (pe_call (ok_law_in_range T) (hr.mono (by decide)) rfl T.g__law_in_range T.F__law_in_range.kp T.b__law_in_range .nil pass0 (pa_cons (pe_op op_sub (pv 1) (pe_op op_mul (pv 2) (pe_op op_fdivN (pv 1) (pv 2)))) pa_nil)) (pa_cons (pe_str) pa_nil)))))))
  (pss_nil))
  (pss_cons (ps_if (pt_cmpR op_eq (pv 0) (pe_str) (nomark _))
  (pss_one (ps_ret (pe_tup (pa_cons (pe_callTy call_int1 (by rfl) T.n_int (by decide +kernel) (pa_cons (pe_cmpR op_lt (pv 1) (pv 2) (nomark _)) pa_nil)) (pa_cons (pe_str) pa_nil)))))
  (pss_nil))
  (pss_cons (ps_if (pt_cmpR op_eq (pv 0) (pe_str) (nomark _))
  (pss_one (ps_ret (pe_tup (pa_cons (pe_callTy call_int1 (by rfl) T.n_int (by decide +kernel) (pa_cons (pe_cmpR op_le (pv 1) (pv 2) (nomark _)) pa_nil)) (pa_cons (pe_str) pa_nil)))))
  (pss_nil))
  (pss_one (ps_ret (pe_tup (pa_cons (pe_callTy call_int1 (by rfl) T.n_int (by decide +kernel) (pa_cons (pe_cmpR op_eq (pv 1) (pv 2) (nomark _)) pa_nil)) (pa_cons (pe_str) pa_nil)))))))))), ?_⟩
  unfold resTwo f2 at k
  have ti : ∀ {σ : L2.St} {te : TE} {H2 : Hp} {n : Int} {s : Str}, Te te σ H2 (.int n) → s = "range" → Same H H2 → (∀ t H' xs, Same H H' → H' t = some (.tup xs) → RzT (chk n) xs → Q (.ref t) H') → tRet (tTup (tCons (tCall spInRange [] E0 (tCons te tNil)) (tCons (tC (.str s)) tNil))) { nx := fun _ H' => Q V.non H', rt := Q } σ H2 := fun ht e s k =>
    ret_tup2 (te_inr (ta_cons ht ta_nil)) te_c (fin_two s (by show 2 ≤ 1000; decide) (rz_chk e) k)
  have tb : ∀ {σ : L2.St} {te : TE} {H2 : Hp} {c : Bool} {s : Str}, Te te σ H2 (.bl c) → s = "range" → Same H H2 → (∀ t H' xs, Same H H' → H' t = some (.tup xs) → RzT (chk (b1 c)) xs → Q (.ref t) H') →
      tRet (tTup (tCons (tCB (fun xs H Q => (∃ i, xs = [.int i] ∧ Q (.int i) H) ∨ ∃ k, xs = [.bl k] ∧ Q (.int (if k then 1 else 0)) H) (tCons te tNil)) (tCons (tC (.str s)) tNil))) { nx := fun _ H' => Q V.non H', rt := Q } σ H2 := fun {σ te H2 c s} ht e ss k =>
    ret_tup2 (te_int1b ht) te_c (fin_two ss (by show 2 ≤ 1000; decide) (by rw [chk_in (b1_in c)]; exact ⟨s, rfl⟩) k)
  refine if_seq (tt_test (te_eq (te_var rfl) te_c rfl)) (fun h => ?_) fun h => ?_
  · rw [deq_str] at h
    rw [if_pos (of_decide_eq_true h)] at k
    exact ti (te_i0 (te_var rfl) (te_var rfl)) rfl (Same.refl _) k
  rw [deq_str] at h
  rw [if_neg (of_decide_eq_false h)] at k
  have hn1 := of_decide_eq_false h
  refine if_seq (tt_test (te_eq (te_var rfl) te_c rfl)) (fun h => ?_) fun h => ?_
  · rw [deq_str] at h
    rw [if_pos (of_decide_eq_true h)] at k
    exact ti (te_i0 (te_var rfl) (te_var rfl)) rfl (Same.refl _) k
  rw [deq_str] at h
  rw [if_neg (of_decide_eq_false h)] at k
  have hn2 := of_decide_eq_false h
  refine if_seq (tt_test (te_eq (te_var rfl) te_c rfl)) (fun h => ?_) fun h => ?_
  · rw [deq_str] at h
    rw [if_pos (of_decide_eq_true h)] at k
    unfold InR at ra rb
    exact ti (te_i (te_var rfl) (te_var rfl) (show CMul _ _ from .inr ⟨by omega, by omega⟩)) rfl (Same.refl _) k
  rw [deq_str] at h
  rw [if_neg (of_decide_eq_false h)] at k
  have hn3 := of_decide_eq_false h
  refine tin_go (zs := ["over", "rest"]) (te_var rfl) (ta_cons te_c (ta_cons te_c ta_nil)) (by decide) fun q hq => ?_
  have s1 : Same H (upd H q (.lst ((["over", "rest"] : List Str).map V.str))) := Same.upd hq
  generalize upd H q (HO.lst ((["over", "rest"] : List Str).map V.str)) = H1 at s1 ⊢
  refine ⟨_, rfl, ite3 (fun h => ?_) fun h => ?_⟩
  · have h : x = "over" ∨ x = "rest" := by simpa using h
    have n1 : x ≠ "less" ∧ x ≠ "atmost" ∧ x ≠ "same" := by
      rcases h with rfl | rfl <;> decide
    rw [if_neg n1.1, if_neg n1.2.1, if_neg n1.2.2] at k
    refine if_seq (tt_test (te_eq (te_var rfl) te_c rfl)) (fun h2 => ?_) fun h2 => ?_
    · rw [deq_int] at h2
      rw [if_pos (of_decide_eq_true h2)] at k
      exact ret_tup2 te_c te_c (fin_two (z := .er "zero") s1 (by show 2 ≤ 1000; decide) rfl k)
    rw [deq_int] at h2
    have hb := of_decide_eq_false h2
    rw [if_neg hb] at k
    unfold InR at ra rb
    have cd : CDivN a b := ⟨hb, by omega⟩
    refine if_seq (tt_test (te_eq (te_var rfl) te_c rfl)) (fun h3 => ?_) fun h3 => ?_
    · rw [deq_str] at h3
      rw [if_pos (of_decide_eq_true h3)] at k
      exact ti (te_i (te_var rfl) (te_var rfl) cd) rfl s1 k
    · rw [deq_str] at h3
      rw [if_neg (of_decide_eq_false h3)] at k
      exact ti (te_i0 (te_var rfl) (te_i (te_var rfl) (te_i (te_var rfl) (te_var rfl) cd) (show CMul _ _ from .inl ⟨by omega, by omega⟩))) rfl s1 k
  · have h0 : ¬ (x = "over" ∨ x = "rest") := by simpa using h
    refine if_seq (tt_test (te_eq (te_var rfl) te_c rfl)) (fun h => ?_) fun h => ?_
    · rw [deq_str] at h
      rw [if_pos (of_decide_eq_true h)] at k
      exact tb (te_i0 (te_var rfl) (te_var rfl)) rfl s1 k
    rw [deq_str] at h
    rw [if_neg (of_decide_eq_false h)] at k
    have hn4 := of_decide_eq_false h
    refine if_seq (tt_test (te_eq (te_var rfl) te_c rfl)) (fun h => ?_) fun h => ?_
    · rw [deq_str] at h
      rw [if_pos (of_decide_eq_true h)] at k
      exact tb (te_i0 (te_var rfl) (te_var rfl)) rfl s1 k
    rw [deq_str] at h
    rw [if_neg (of_decide_eq_false h)] at k
    have hn5 := of_decide_eq_false h
    have hs : x = "same" := by
      have hx2 : x = "plus" ∨ x = "minus" ∨ x = "times" ∨ x = "over" ∨ x = "rest" ∨ x = "less" ∨ x = "atmost" ∨ x = "same" ∨ x = "and" ∨ x = "or" := by simpa [Ex.words2] using hx
      unfold logic at hnl
      rcases hx2 with e | e | e | e | e | e | e | e | e | e
      · exact absurd e hn1
      · exact absurd e hn2
      · exact absurd e hn3
      · exact absurd (.inl e) h0
      · exact absurd (.inr e) h0
      · exact absurd e hn4
      · exact absurd e hn5
      · exact e
      · exact absurd (.inl e) hnl
      · exact absurd (.inr e) hnl
    rw [if_pos hs] at k
    have t := te_eq (σ := L2.start ["kind", "first", "second"] [.str x, .int a, .int b]) (H := H1) (ta := tVar 1) (tb := tVar 2) (te_var (v := .int a) rfl) (te_var (v := .int b) rfl) rfl
    rw [deq_int] at t
    exact tb t rfl s1 k
def spPlace (K : PySem.W.Frag) : Sp := fun vs H Q _ => ∃ (pc : Addr) (cs : List Cl) (nm : Str) (i : Int), vs = [.ref pc, .str nm, .int i] ∧ CellsIn K H pc cs ∧ (cs.map (·.1)).Nodup ∧ Q (optV (place cs nm i 0)) H
theorem ok_law_place (T : Txt K mg A) : FnOk P w K mg base CX0 1 A.a__law_place A.d__law_place ["cells", "name", "index"] (spPlace K) := by
  refine T.F__law_place.ok sc_law_place (fun vs H Q E ⟨_, _, _, _, e, _⟩ => by rw [e]; rfl) (fun cdv A' outer s0 H vs Q E hr h => ?_)
  obtain ⟨pc, cs, nm, i, rfl, hc, nd, k⟩ := h
  rw [← placeL_eq nd] at k
  refine ⟨_, pss_cons (ps_set (i := 3) sc_law_place.nd rfl (Or.inl rfl) (pe_int))
  (pss_cons (ps_for PassesOwn.never rfl (pi_list (pv 0)) (pg_tup (by rfl) (pgs_cons (pg_name (i := 4) sc_law_place.nd rfl (Or.inl rfl)) (pgs_cons (pg_name (i := 5) sc_law_place.nd rfl (Or.inl rfl)) (pgs_cons (pg_name (i := 6) sc_law_place.nd rfl (Or.inl rfl)) pgs_nil))))
  (pss_cons (ps_if (PW.pt (pw_and (pt_cmpR op_eq (pv 4) (pv 1) (nomark _)) (pw_and1 (pt_chain op_le op_lt (pe_int) (pv 2) (pv 5)))))
  (pss_one (ps_ret (pe_op op_add (pv 3) (pv 2))))
  (pss_nil))
  (pss_one (ps_set (i := 3) sc_law_place.nd rfl (Or.inl rfl) (pe_op op_add (pv 3) (pv 5))))))
  (pss_one (ps_ret (pe_non)))), ?_⟩
  obtain ⟨xs, hx, hp⟩ := hc.ex
  refine asg_te (v := .int 0) te_c ?_
  refine set_sl (σ' := [some (.ref pc), some (.str nm), some (.int i), some (.int 0), none, none, none]) rfl ?_
  refine ⟨_, rfl, pc, rfl, ⟨_, hx⟩, for_list (K := K) (a := pc) (xs := xs) (fun j σ H' => ∃ (a : Int) (v4 v5 v6 : Option V), σ = [some (.ref pc), some (.str nm), some (.int i), some (.int a), v4, v5, v6] ∧ H' = H ∧ placeL cs nm i 0 = placeL (cs.drop j) nm i a) ⟨0, _, _, _, rfl, rfl, rfl⟩ (fun j σ H' _ ⟨_, _, _, _, _, e, _⟩ => by rw [e]; exact hx) ?_ ?_⟩
  · rintro j y σ H' hj ⟨a, v4, v5, v6, rfl, rfl, ep⟩
    obtain ⟨c, hcj, t, rfl, ht⟩ := paired_at hp hj
    have ed : cs.drop j = c :: cs.drop (j + 1) := List.drop_eq_getElem?_toList_append.trans (by rw [hcj]; rfl)
    rw [ed, placeL_cons] at ep
    refine ⟨t, _, rfl, ht, rfl, _, _, rfl, _, _, rfl, _, _, rfl, rfl, ?_⟩
    dsimp only [gName]
    refine set_sl (σ' := [some (.ref pc), some (.str nm), some (.int i), some (.int a), some (.str c.1), some (.int c.2.1), some (.int c.2.2)]) rfl ?_
    refine if_seq (tt_and (tt_test (te_eq (te_var rfl) (te_var rfl) rfl)) fun _ => tt_test (te_chain (p := fun i j => decide (i ≤ j)) (q := fun i j => decide (i < j)) te_c (te_var rfl) (te_var rfl))) (fun h => ?_) fun h => ?_
    · have h : c.1 = nm ∧ 0 ≤ i ∧ i < c.2.1 := by
        rw [deq_str] at h
        simpa using h
      rw [if_pos h] at ep
      rw [ep] at k
      exact ret_te (te_i0 (te_var rfl) (te_var rfl)) k
    · have h : ¬ (c.1 = nm ∧ 0 ≤ i ∧ i < c.2.1) := by
        rw [deq_str] at h
        simpa using h
      rw [if_neg h] at ep
      exact te_i0 (te_var rfl) (te_var rfl) _ ⟨_, _, _, _, rfl, rfl, ep⟩
  · rintro σ H' ⟨a, v4, v5, v6, rfl, rfl, ep⟩
    have ed : cs.drop xs.length = [] := List.drop_of_length_le (by rw [paired_len hp]; exact Nat.le_refl _)
    rw [ed] at ep
    rw [ep] at k
    dsimp only
    exact ret_te te_c k
/-- what the law knows -/
def kW (p : Pl) : Kv := [(.inr "cells", .ref p.pc), (.inr "locals", .ref p.dl), (.inr "memory", .ref p.pm), (.inr "writes", .ref p.dw), (.inr "reads", .ref p.dr), (.inr "later", .ref p.ll)]
end
end K13

namespace K13
open PySem L2 YF YG NdefX
/-! ### the law's own world: a dict; its state is a run's state -/
def ownL (p : Pl) : List Addr := [p.self, p.dl, p.dr, p.dw, p.ll]
structure WlH (K : PySem.W.Frag) (H B : Hp) (p : Pl) (names : List Str) (cs : List Cl) (ms : List Int) (s : RS) : Prop where
  ob : H p.self = some (.dK (kW p))
  loc : H p.dl = some (.dK s.loc)
  rds : H p.dr = some (.dK s.rds)
  wrs : H p.dw = some (.dK s.wrs)
  ltr : H p.ll = some (.lst (s.ltr.map V.int))
  n1 : p.dl ≠ p.dr
  n2 : p.dw ≠ p.dr
  n3 : p.dl ≠ p.dw
  n4 : p.self ≠ p.dl
  n5 : p.self ≠ p.dr
  n6 : p.self ≠ p.dw
  sb : Same B H
  off : ∀ b ∈ ownL p, B b = none
  cel : CellsIn K B p.pc cs
  mem : B p.pm = some (.lst (ms.map V.int))
  ok : OkS names cs ms s
/-- the places behind a step -/
structure NxL (H : Hp) (p q : Pl) : Prop where
  self : q.self = p.self
  pc : q.pc = p.pc
  pm : q.pm = p.pm
  dr : q.dr = p.dr
  dl : q.dl = p.dl ∨ H q.dl = none
  dw : q.dw = p.dw ∨ H q.dw = none
  ll : q.ll = p.ll ∨ H q.ll = none
theorem NxL.refl {H : Hp} {p : Pl} : NxL H p p := ⟨rfl, rfl, rfl, rfl, .inl rfl, .inl rfl, .inl rfl⟩
theorem NxL.own {H : Hp} {p q : Pl} (n : NxL H p q) {b : Addr} (h : b ∈ ownL q) : b ∈ ownL p ∨ H b = none := by
  simp only [ownL, List.mem_cons, List.not_mem_nil, or_false] at h ⊢
  rcases h with rfl | rfl | rfl | rfl | rfl
  · exact .inl (.inl n.self)
  · rcases n.dl with e | e
    · exact .inl (.inr (.inl e))
    · exact .inr e
  · exact .inl (.inr (.inr (.inl n.dr)))
  · rcases n.dw with e | e
    · exact .inl (.inr (.inr (.inr (.inl e))))
    · exact .inr e
  · rcases n.ll with e | e
    · exact .inl (.inr (.inr (.inr (.inr e))))
    · exact .inr e
/-- nothing is gone -/
def AlL (H H' : Hp) : Prop := ∀ x, H x ≠ none → H' x ≠ none
theorem AlL.none {H H' : Hp} (a : AlL H H') {x : Addr} (h : H' x = none) : H x = none := by
  cases e : H x with
  | none => rfl
  | some o => exact absurd h (a x (by rw [e]; exact fun z => nomatch z))
structure StL (K : PySem.W.Frag) (H B : Hp) (p : Pl) (names : List Str) (cs : List Cl) (ms : List Int) (s' : RS) (H' : Hp) (q : Pl) : Prop where
  run : WlH K H' B q names cs ms s'
  nx : NxL H p q
  fr : Fr (ownL p) H H'
  al : AlL H H'
variable {K : PySem.W.Frag} {H H1 H2 B : Hp} {p q r : Pl} {names : List Str} {cs : List Cl} {ms : List Int} {s s1 s2 : RS}
theorem StL.refl (W : WlH K H B p names cs ms s) : StL K H B p names cs ms s H p := ⟨W, .refl, fun _ _ _ e => e, fun _ h => h⟩
theorem StL.trans (a : StL K H B p names cs ms s1 H1 q) (b : StL K H1 B q names cs ms s2 H2 r) : StL K H B p names cs ms s2 H2 r := by
  refine ⟨b.run, ⟨b.nx.self.trans a.nx.self, b.nx.pc.trans a.nx.pc, b.nx.pm.trans a.nx.pm, b.nx.dr.trans a.nx.dr, ?_, ?_, ?_⟩, fun x o hx e => b.fr x o (fun m => ?_) (a.fr x o hx e), fun x h => b.al x (a.al x h)⟩
  · rcases b.nx.dl with e | e
    · rw [e]
      exact a.nx.dl
    · exact .inr (a.al.none e)
  · rcases b.nx.dw with e | e
    · rw [e]
      exact a.nx.dw
    · exact .inr (a.al.none e)
  · rcases b.nx.ll with e | e
    · rw [e]
      exact a.nx.ll
    · exact .inr (a.al.none e)
  · rcases a.nx.own m with z | z
    · exact hx z
    · rw [e] at z
      cases z
/-- something new beside -/
theorem WlH.same (W : WlH K H B p names cs ms s) (t : Same H H1) : WlH K H1 B p names cs ms s :=
  ⟨t _ _ W.ob, t _ _ W.loc, t _ _ W.rds, t _ _ W.wrs, t _ _ W.ltr, W.n1, W.n2, W.n3, W.n4, W.n5, W.n6, fun b o e => t _ _ (W.sb _ _ e), W.off, W.cel, W.mem, W.ok⟩
theorem StL.same (S : StL K H B p names cs ms s1 H1 q) (t : Same H1 H2) : StL K H B p names cs ms s1 H2 q :=
  S.trans ⟨S.run.same t, .refl, fun x o _ e => t _ _ e, fun x h => by
    cases e : H1 x with
    | none => exact absurd e h
    | some o =>
      rw [t _ _ e]
      exact fun z => nomatch z⟩
/-- the reads are written -/
theorem WlH.rd (W : WlH K H B p names cs ms s) {l : Kv} (O : OkS names cs ms { s with rds := l }) : StL K H B p names cs ms { s with rds := l } (upd H p.dr (.dK l)) p := by
  have ne : ∀ {b : Addr} {o : HO}, b ≠ p.dr → H b = some o → (upd H p.dr (.dK l)) b = some o := fun n e => by
    rw [upd_ne n]
    exact e
  have lr : p.ll ≠ p.dr := fun z => by
    have h1 := W.ltr
    rw [z, W.rds] at h1
    cases h1
  refine ⟨⟨ne W.n5 W.ob, ne W.n1 W.loc, upd_same, ne W.n2 W.wrs, ne lr W.ltr, W.n1, W.n2, W.n3, W.n4, W.n5, W.n6, fun b o e => ?_, W.off, W.cel, W.mem, O⟩, .refl, fun x o hx e => ?_, fun x h => ?_⟩
  · rw [upd_ne fun z => by rw [z, W.off p.dr (by simp [ownL])] at e; cases e]
    exact W.sb _ _ e
  · rw [upd_ne fun z => hx (by rw [z]; simp [ownL])]
    exact e
  · by_cases z : x = p.dr
    · rw [z, upd_same]
      exact fun q => nomatch q
    · rw [upd_ne z]
      exact h
end K13

namespace K13
open PySem L2 YF NdefX
section
variable {P : Program} {w : World} {K : PySem.W.Frag} {mg : Str → Option Value} {base : Heap} {A : Adr}
def spReadL (K : PySem.W.Frag) : Sp := fun vs H Q _ => ∃ (p : Pl) (B : Hp) (names : List Str) (cs : List Cl) (ms : List Int) (s : RS) (j : Nat), vs = [.ref p.self, .int (j : Int)] ∧ WlH K H B p names cs ms s ∧ j < ms.length ∧
  ∀ n s' H', rd ms s (j : Int) = (.ok n, s') → StL K H B p names cs ms s' H' p → Q (.int n) H'
theorem ok_law_read (T : Txt K mg A) : FnOk P w K mg base CX0 1 A.a__law_read A.d__law_read ["world", "number"] (spReadL K) := by
  refine T.F__law_read.ok sc_law_read (fun vs H Q E ⟨_, _, _, _, _, _, _, e, _⟩ => by rw [e]; rfl) (fun cdv A' outer s0 H vs Q E hr h => ?_)
  obtain ⟨p, B, names, cs, ms, s, j, rfl, W, hj, k⟩ := h
  refine ⟨_, pss_cons (ps_if (pt_cmp (pc_din (hu_of hr) (pv 1) (pe_dget (hu_of hr) (pv 0) (pe_str) (fun _ _ => rfl))))
  (pss_one (ps_ret (pe_dget (hu_of hr) (pe_dget (hu_of hr) (pv 0) (pe_str) (fun _ _ => rfl)) (pv 1) (fun _ _ => rfl))))
  (pss_nil))
  (pss_cons (ps_dput (hu_of hr) (pe_dget (hu_of hr) (pv 0) (pe_str) (fun _ _ => rfl)) (pv 1) (pe_ix ix_list (pe_dget (hu_of hr) (pv 0) (pe_str) (fun _ _ => rfl)) (pv 1) (fun _ _ => rfl)) rfl)
  (pss_one (ps_ret (pe_ix ix_list (pe_dget (hu_of hr) (pv 0) (pe_str) (fun _ _ => rfl)) (pv 1) (fun _ _ => rfl))))), ?_⟩
  obtain ⟨n, s', er, O, q1, q2, q3⟩ := rd_ok W.ok hj
  have tg : ∀ {G : Hp} {nm : Str} {a : Addr}, G p.self = some (.dK (kW p)) → valV (kW p) (.inr nm : Key) = some (.ref a) → Te (tDGet (tVar 0) (tC (.str nm))) (L2.start ["world", "number"] [.ref p.self, .int (j : Int)]) G (.ref a) := fun h e => te_dgetS (te_var rfl) te_c h e
  have ex : ms[j]? = some (ms.getD j 0) := by
    rw [List.getD_eq_getElem?_getD, List.getElem?_eq_getElem hj]
    rfl
  have tm : ∀ {G : Hp}, G p.self = some (.dK (kW p)) → G p.pm = some (.lst (ms.map V.int)) → Te (tOp (rIxL K) (tDGet (tVar 0) (tC (.str "memory"))) (tVar 1)) (L2.start ["world", "number"] [.ref p.self, .int (j : Int)]) G (.int (ms.getD j 0)) := fun h e => te_ixL (tg h rfl) (te_var rfl) (SqL.of e) (atI_nat (by rw [List.getElem?_map, ex]; rfl))
  cases ew : valV s.wrs (.inl (j : Int) : Key) with
  | some v =>
    obtain ⟨m, rfl, _⟩ := W.ok.wrs.get ew
    refine if_seq (b := true) (tt_b ?_) (fun _ => ?_) fun z => nomatch z
    · have t := te_din (te_var rfl) (tg (nm := "writes") W.ob rfl) W.wrs (σ := L2.start ["world", "number"] [.ref p.self, .int (j : Int)]) (ty := tVar 1) (i := (j : Int))
      rw [ew] at t
      exact t
    · exact ret_te (te_dgetI (tg (nm := "writes") W.ob rfl) (te_var rfl) W.wrs ew) (k m s H (by unfold rd; rw [ew]) (.refl W))
  | none =>
    refine if_seq (b := false) (tt_b ?_) (fun z => nomatch z) fun _ => ?_
    · have t := te_din (te_var rfl) (tg (nm := "writes") W.ob rfl) W.wrs (σ := L2.start ["world", "number"] [.ref p.self, .int (j : Int)]) (ty := tVar 1) (i := (j : Int))
      rw [ew] at t
      exact t
    · have e2 : rd ms s (j : Int) = (.ok (ms.getD j 0), { s with rds := putK s.rds (.inl (j : Int) : Key) (.int (ms.getD j 0)) }) := by
        unfold rd
        rw [ew]
        rfl
      rw [e2] at er
      cases er
      have S := W.rd O
      have ll : s.rds.length < sizeLine := by
        have := W.ok.rds.len
        have := W.ok.big
        rw [sizeLine_eq]
        omega
      refine sq_go (st_dputI (tm W.ob (W.sb _ _ W.mem)) (tg W.ob rfl) (te_var rfl) W.rds ll ?_)
      exact ret_te (tm S.run.ob (S.run.sb _ _ W.mem)) (k _ _ _ e2 S)
end
end K13

namespace K13
open PySem L2 YF NdefX
section
variable {P : Program} {w : World} {K : PySem.W.Frag} {mg : Str → Option Value} {base : Heap} {A : Adr}
theorem te_ifT {σ : L2.St} {H : Hp} {t : TT} {ta tb : TE} {v : V} (ht : Tt t σ H true) (ha : Te ta σ H v) : Te (tIf t ta tb) σ H v := fun Q q => ht _ (by
  show if true = true then _ else _
  rw [if_pos rfl]
  exact ha Q q)
theorem te_ifF {σ : L2.St} {H : Hp} {t : TT} {ta tb : TE} {v : V} (ht : Tt t σ H false) (hb : Te tb σ H v) : Te (tIf t ta tb) σ H v := fun Q q => ht _ (by
  show if false = true then _ else _
  rw [if_neg (by decide)]
  exact hb Q q)
theorem and_or : ¬ (("and" : Str) = "or") := by decide +kernel
theorem dec_and {i : Int} : dec "and" [i] = decide (i = 0) := by
  unfold dec
  rw [if_pos rfl]
  simp
theorem dec_or {i : Int} : dec "or" [i] = !decide (i = 0) := by
  unfold dec
  rw [if_neg (by decide +kernel)]
  simp
theorem dec_no {wd : Str} {is : List Int} (h : ¬ logic wd) : dec wd is = false := by
  unfold dec
  rw [if_neg fun q => h (.inl q), decide_eq_false fun q => h (.inr q)]
  rfl
theorem and_in {σ : L2.St} {H : Hp} {te : TE} {tl : TA} {u : TT} {x : Str} {zs : List Str} {b : Bool} {D : Ends} {tu rest : TS} (ha : Te te σ H (.str x)) (hl : Ta tl σ H (zs.map V.str)) (hz : zs.length ≤ 1000) (hu : ∀ H2, Tt u σ H2 b)
    (k1 : ∀ p, H p = none → x ∈ zs → b = true → tu { D with nx := rest D } σ (upd H p (.lst (zs.map V.str)))) (k2 : ∀ p, H p = none → (x ∉ zs ∨ b = false) → rest D σ (upd H p (.lst (zs.map V.str)))) :
    tSeq (tIfS (tAnd (tTest (tOp (rIn K false) te (tLst tl))) u) tu tNext) rest D σ H :=
  tin_go ha hl hz fun p hp => ⟨_, rfl, ite3 (fun h => hu _ _ (by
    cases b with
    | true => exact k1 p hp (of_decide_eq_true h) rfl
    | false => exact k2 p hp (.inr rfl))) fun h => k2 p hp (.inl (of_decide_eq_false h))⟩
theorem in_seq {σ : L2.St} {H : Hp} {te : TE} {tl : TA} {x : Str} {zs : List Str} {D : Ends} {tu rest : TS} (ha : Te te σ H (.str x)) (hl : Ta tl σ H (zs.map V.str)) (hz : zs.length ≤ 1000)
    (k1 : ∀ p, H p = none → x ∈ zs → tu { D with nx := rest D } σ (upd H p (.lst (zs.map V.str)))) (k2 : ∀ p, H p = none → x ∉ zs → rest D σ (upd H p (.lst (zs.map V.str)))) :
    tSeq (tIfS (tTest (tOp (rIn K false) te (tLst tl))) tu tNext) rest D σ H :=
  tin_go ha hl hz fun p hp => ⟨_, rfl, ite3 (fun h => k1 p hp (of_decide_eq_true h)) fun h => k2 p hp (of_decide_eq_false h)⟩
theorem go_two {σ : L2.St} {H : Hp} {ta : TA} {E : XK} {Q : VK} {k : Str} {a b : Int} (ha : Ta ta σ H [.str k, .int a, .int b]) (ra : InR a) (rb : InR b) (hk : k ∈ Ex.words2) (hl : ¬ logic k) (q : ∀ t H' xs, Same H H' → H' t = some (.tup xs) → RzT (resTwo k a b) xs → Q (.ref t) H') : tCall spTwoL [] E ta σ H Q :=
  ha _ ⟨k, a, b, rfl, ra, rb, hk, hl, q⟩
theorem te_eqs {σ : L2.St} {H : Hp} {c : Nat} {x y : Str} (h : σ[c]? = some (some (.str x))) : Te (tOp rEq (tVar c) (tC (.str y))) σ H (.bl (decide (x = y))) := by
  have t := te_eq (H := H) (te_var h) (te_c (v := .str y)) rfl
  rw [deq_str] at t
  exact t
theorem te_ne0 {σ : L2.St} {H : Hp} {c : Nat} {x y : Int} (h : σ[c]? = some (some (.int x))) : Te (tOp rNe (tVar c) (tC (.int y))) σ H (.bl (!decide (x = y))) := by
  have t := te_ne (H := H) (te_var h) (te_c (v := .int y)) rfl
  rw [deq_int] at t
  exact t
theorem ev_rngR {names : List Str} {cs : List Cl} {ms : List Int} {s : RS} (O : OkS names cs ms s) : ∀ {e : Ex} {n : Int}, okEx (okLR names) e → (ev (lkR cs ms) s e).1 = .ok n → InR n := by
  have c1 : ∀ {m n : Int}, chk m = .ok n → InR n := fun {m n} h => by
    unfold chk at h
    by_cases q : InR m
    · rw [if_pos q] at h
      cases h
      exact q
    · rw [if_neg q] at h
      cases h
  have two : ∀ {wd : Str} {a b : Ex} {is : List Int} {u : RS} {n : Int}, (resE (lkR cs ms) u (.two wd a b) is).1 = .ok n → InR n := fun {wd a b is u n} h => by
    rw [resE_two] at h
    by_cases q : logic wd
    · rw [if_pos q] at h
      cases h
      exact b1_in _
    · rw [if_neg q] at h
      cases q2 : f2 wd (is.headD 0) (is.getLastD 0) with
      | none =>
        rw [q2] at h
        cases h
      | some m =>
        rw [q2] at h
        exact c1 h
  intro e n okl h
  cases e with
  | num m => exact c1 h
  | var wd x => exact lkR_rng (e := .var wd x) (is := []) O okl h
  | cell x a =>
    have O1 := (ev_keep a O).1
    cases q : ev (lkR cs ms) s a with
    | mk r s1 =>
      rw [q] at O1
      have h : (thenE (ev (lkR cs ms) s a) fun i u => resE (lkR cs ms) u (.cell x a) [i]).1 = .ok n := h
      rw [q] at h
      cases r with
      | ok i => exact lkR_rng (e := .cell x a) (is := [i]) O1 okl.1 h
      | er z => cases h
  | one wd a =>
    have h : (thenE (ev (lkR cs ms) s a) fun i u => resE (lkR cs ms) u (.one wd a) [i]).1 = .ok n := h
    cases q : ev (lkR cs ms) s a with
    | mk r s1 =>
      rw [q] at h
      cases r with
      | ok i => exact c1 h
      | er z => cases h
  | two wd a b =>
    have h : (thenE (ev (lkR cs ms) s a) fun i u => if dec wd [i] = true then resE (lkR cs ms) u (.two wd a b) [i] else thenE (ev (lkR cs ms) u b) fun j t => resE (lkR cs ms) t (.two wd a b) [i, j]).1 = .ok n := h
    cases q : ev (lkR cs ms) s a with
    | mk r s1 =>
      rw [q] at h
      cases r with
      | er z => cases h
      | ok i =>
        have h : (if dec wd [i] = true then resE (lkR cs ms) s1 (.two wd a b) [i] else thenE (ev (lkR cs ms) s1 b) fun j t => resE (lkR cs ms) t (.two wd a b) [i, j]).1 = .ok n := h
        by_cases d : dec wd [i] = true
        · rw [if_pos d] at h
          exact two h
        · rw [if_neg d] at h
          cases q2 : ev (lkR cs ms) s1 b with
          | mk r2 s2 =>
            rw [q2] at h
            cases r2 with
            | ok j => exact two (a := a) (b := b) h
            | er z => cases h
def spValL (K : PySem.W.Frag) (n : Nat) : Sp := fun vs H Q _ => ∃ (p : Pl) (B : Hp) (names : List Str) (cs : List Cl) (ms : List Int) (s : RS) (e : Ex) (v : V), vs = [.ref p.self, v] ∧ WlH K H B p names cs ms s ∧ (cs.map (·.1)).Nodup ∧ Rp K B e.d [v] ∧ e.ok ∧ okEx (okLR names) e ∧ dpE e < n ∧
  ∀ t H' xs r s', ev (lkR cs ms) s e = (r, s') → StL K H B p names cs ms s' H' p → H' t = some (.tup xs) → RzT r xs → Q (.ref t) H'
section
variable {p : Pl} {B H H2 : Hp} {names : List Str} {cs : List Cl} {ms : List Int} {s s2 : RS} {Q : VK}
theorem finL {xs : List V} {z r : Rz} {s' : RS} {e : Ex} (ee : ev (lkR cs ms) s e = (r, s')) (S : StL K H B p names cs ms s' H2 p) (hl : xs.length ≤ 1000) (rz : RzT r xs)
    (k : ∀ t H' xs r s', ev (lkR cs ms) s e = (r, s') → StL K H B p names cs ms s' H' p → H' t = some (.tup xs) → RzT r xs → Q (.ref t) H') : xs.length ≤ sizeLine ∧ ∀ t, H2 t = none → Q (.ref t) (upd H2 t (.tup xs)) :=
  ⟨Nat.le_trans hl (by decide), fun t ht => k t _ xs r s' ee (S.same (Same.upd ht)) upd_same rz⟩
theorem go_valL {n : Nat} {σ : L2.St} {ta : TA} {E : XK} {e : Ex} {v : V} (ha : Ta ta σ H [.ref p.self, v]) (W : WlH K H B p names cs ms s) (nd : (cs.map (·.1)).Nodup) (r : Rp K B e.d [v]) (ok : e.ok) (okl : okEx (okLR names) e) (hd : dpE e < n)
    (k : ∀ t H' xs r s', ev (lkR cs ms) s e = (r, s') → StL K H B p names cs ms s' H' p → H' t = some (.tup xs) → RzT r xs → Q (.ref t) H') : tCall (spValL K n) [] E ta σ H Q := ha _ ⟨p, B, names, cs, ms, s, e, v, rfl, W, nd, r, ok, okl, hd, k⟩
theorem go_readL {σ : L2.St} {ta : TA} {E : XK} {j : Nat} (ha : Ta ta σ H [.ref p.self, .int (j : Int)]) (W : WlH K H B p names cs ms s) (hj : j < ms.length) (k : ∀ n s' H', rd ms s (j : Int) = (.ok n, s') → StL K H B p names cs ms s' H' p → Q (.int n) H') : tCall (spReadL K) [] E ta σ H Q := ha _ ⟨p, B, names, cs, ms, s, j, rfl, W, hj, k⟩
theorem asg2L {n a b : Nat} {σ : L2.St} {tw te : TE} {D : Ends} {rest : TS} {E : XK} {e : Ex} {u : V} (hw : Te tw σ H (.ref p.self)) (hu : Te te σ H u) (W : WlH K H B p names cs ms s) (nd : (cs.map (·.1)).Nodup) (r : Rp K B e.d [u]) (ok : e.ok) (okl : okEx (okLR names) e) (hd : dpE e < n)
    (k1 : ∀ i x s1 H1, ev (lkR cs ms) s e = (.ok i, s1) → StL K H B p names cs ms s1 H1 p → rest D ((σ.set a (some (.int i))).set b (some (.str x))) H1)
    (k2 : ∀ z s1 H1, ev (lkR cs ms) s e = (.er z, s1) → StL K H B p names cs ms s1 H1 p → rest D ((σ.set a (some .non)).set b (some (.str z))) H1) :
    tSeq (tAsg (tCall (spValL K n) [] E (tCons tw (tCons te tNil))) (gTup K 2 (gCons (gName a) (gCons (gName b) gNil)))) rest D σ H := by
  refine go_valL (ta_cons hw (ta_cons hu ta_nil)) W nd r ok okl hd fun t H1 xs r s1 ee S ht rz => ?_
  cases r with
  | ok i =>
    obtain ⟨x, rfl⟩ := rz
    exact ⟨t, _, rfl, SqT.of ht, rfl, _, _, rfl, _, _, rfl, rfl, k1 i x s1 H1 ee S⟩
  | er z =>
    cases rz
    exact ⟨t, _, rfl, SqT.of ht, rfl, _, _, rfl, _, _, rfl, rfl, k2 z s1 H1 ee S⟩
end
theorem ok_law_value (T : Txt K mg A) : ∀ n : Nat, FnOk P w K mg base CX0 (n + 2) A.a__law_value A.d__law_value ["world", "exp"] (spValL K n) := by
  intro n
  induction n with
  | zero => exact ⟨fun vs H Q E ⟨_, _, _, _, _, _, _, _, e, _⟩ => by rw [e]; rfl, fun A' outer s H args us vs Q E hr e0 hb r ⟨_, _, _, _, _, _, _, _, _, _, _, _, _, _, h, _⟩ => by omega⟩
  | succ n ih =>
    refine T.F__law_value.ok (k := n + 2) sc_law_value (fun vs H Q E ⟨_, _, _, _, _, _, _, _, e, _⟩ => by rw [e]; rfl) (fun cdv A' outer s0 H vs Q E hr h => ?_)
    obtain ⟨p, B, names, cs, ms, s, e, v, rfl, W, nd, r, ok, okl, hd, k⟩ := h
    refine ⟨_, pss_cons (ps_set (i := 2) sc_law_value.nd rfl (Or.inl rfl) (pe_ix ix_tup (pv 1) (pe_int) (fun _ _ => rfl)))
  (pss_cons (ps_if (pt_cmpR op_eq (pv 2) (pe_str) (nomark _))
  (pss_one (ps_ret (pe_tup (pa_cons (pe_call (ok_law_in_range T) (hr.mono (by omega)) rfl T.g__law_in_range T.F__law_in_range.kp T.b__law_in_range .nil pass0 (pa_cons (pe_ix ix_tup (pv 1) (pe_int) (fun _ _ => rfl)) pa_nil)) (pa_cons (pe_str) pa_nil)))))
  (pss_nil))
  (pss_cons (ps_if (pt_cmpR op_eq (pv 2) (pe_str) (nomark _))
  (pss_one (ps_ret (pe_tup (pa_cons (pe_dget (hu_of hr) (pe_dget (hu_of hr) (pv 0) (pe_str) (fun _ _ => rfl)) (pe_ix ix_tup (pv 1) (pe_int) (fun _ _ => rfl)) (fun _ _ => rfl)) (pa_cons (pe_str) pa_nil)))))
  (pss_nil))
  (pss_cons (ps_asg (pe_call ih (hr.mono (by omega)) rfl T.g__law_value T.F__law_value.kp T.b__law_value .nil pass0 (pa_cons (pv 0) (pa_cons (pe_ifExp (pt_cmpR op_eq (pv 2) (pe_str) (nomark _)) (pe_ix ix_tup (pv 1) (pe_int) (fun _ _ => rfl)) (pe_ix ix_tup (pv 1) (pe_int) (fun _ _ => rfl))) pa_nil))) (pg_tup (by rfl) (pgs_cons (pg_name (i := 3) sc_law_value.nd rfl (Or.inl rfl)) (pgs_cons (pg_name (i := 4) sc_law_value.nd rfl (Or.inl rfl)) pgs_nil))))
  (pss_cons (ps_if (pt_cmpR op_isN (pv 3) (pe_non) (nomark _))
  (pss_one (ps_ret (pe_tup (pa_cons (pe_non) (pa_cons (pv 4) pa_nil)))))
  (pss_nil))
  (pss_cons (ps_if (pt_cmpR op_eq (pv 2) (pe_str) (nomark _))
  (pss_cons (ps_set (i := 5) sc_law_value.nd rfl (Or.inl rfl) (pe_call (ok_law_place T) (hr.mono (by omega)) rfl T.g__law_place T.F__law_place.kp T.b__law_place .nil pass0 (pa_cons (pe_dget (hu_of hr) (pv 0) (pe_str) (fun _ _ => rfl)) (pa_cons (pe_ix ix_tup (pv 1) (pe_int) (fun _ _ => rfl)) (pa_cons (pv 3) pa_nil)))))
  (pss_cons (ps_if (pt_cmpR op_isN (pv 5) (pe_non) (nomark _))
  (pss_one (ps_ret (pe_tup (pa_cons (pe_non) (pa_cons (pe_str) pa_nil)))))
  (pss_nil))
  (pss_one (ps_ret (pe_tup (pa_cons (pe_call (ok_law_read T) (hr.mono (by omega)) rfl T.g__law_read T.F__law_read.kp T.b__law_read .nil pass0 (pa_cons (pv 0) (pa_cons (pv 5) pa_nil))) (pa_cons (pe_str) pa_nil)))))))
  (pss_nil))
  (pss_cons (ps_if (pt_cmpR op_eq (pv 2) (pe_str) (nomark _))
  (pss_one (ps_ret (pe_tup (pa_cons (pe_un un_neg (pv 3)) (pa_cons (pe_str) pa_nil)))))
  (pss_nil))
  (pss_cons (ps_if (pt_cmpR op_eq (pv 2) (pe_str) (nomark _))
  (pss_one (ps_ret (pe_tup (pa_cons (pe_callTy call_int1 (by rfl) T.n_int (by decide +kernel) (pa_cons (pe_cmpR op_eq (pv 3) (pe_int) (nomark _)) pa_nil)) (pa_cons (pe_str) pa_nil)))))
  (pss_nil))
  (pss_cons (ps_if (PW.pt (pw_and (pt_cmpR op_in_seq (pv 2) (pe_lst (pa_cons (pe_str) (pa_cons (pe_str) pa_nil))) (by rfl)) (pw_and1 (pt_cmpR op_eq (pe_cmpR op_ne (pv 3) (pe_int) (nomark _)) (pe_cmpR op_eq (pv 2) (pe_str) (nomark _)) (nomark _)))))
  (pss_one (ps_ret (pe_tup (pa_cons (pe_callTy call_int1 (by rfl) T.n_int (by decide +kernel) (pa_cons (pe_cmpR op_eq (pv 2) (pe_str) (nomark _)) pa_nil)) (pa_cons (pe_str) pa_nil)))))
  (pss_nil))
  (pss_cons (ps_asg (pe_call ih (hr.mono (by omega)) rfl T.g__law_value T.F__law_value.kp T.b__law_value .nil pass0 (pa_cons (pv 0) (pa_cons (pe_ix ix_tup (pv 1) (pe_int) (fun _ _ => rfl)) pa_nil))) (pg_tup (by rfl) (pgs_cons (pg_name (i := 6) sc_law_value.nd rfl (Or.inl rfl)) (pgs_cons (pg_name (i := 4) sc_law_value.nd rfl (Or.inl rfl)) pgs_nil))))
  (pss_cons (ps_if (pt_cmpR op_isN (pv 6) (pe_non) (nomark _))
  (pss_one (ps_ret (pe_tup (pa_cons (pe_non) (pa_cons (pv 4) pa_nil)))))
  (pss_nil))
  (pss_cons (ps_if (pt_cmpR op_in_seq (pv 2) (pe_lst (pa_cons (pe_str) (pa_cons (pe_str) pa_nil))) (by rfl))
  (pss_one (ps_ret (pe_tup (pa_cons (pe_callTy call_int1 (by rfl) T.n_int (by decide +kernel) (pa_cons (pe_cmpR op_ne (pv 6) (pe_int) (nomark _)) pa_nil)) (pa_cons (pe_str) pa_nil)))))
  (pss_nil))
  (pss_one (ps_ret (pe_call (ok_law_two T) (hr.mono (by omega)) rfl T.g__law_two T.F__law_two.kp T.b__law_two .nil pass0 (pa_cons (pv 2) (pa_cons (pv 3) (pa_cons (pv 6) pa_nil))))))))))))))))), ?_⟩
    refine asg_te (te_word r W.sb (te_var rfl)) ?_
    refine set_sl (σ' := [some (.ref p.self), some v, some (.str e.word), none, none, none, none]) rfl ?_
    cases e with
    | num x =>
      obtain ⟨tt, xs, rfl, q1, q2, q3⟩ := rp_tup r
      obtain ⟨y1, r1, rfl, q4, q5⟩ := rp_cons q3
      obtain ⟨y2, r2, rfl, q6, q7⟩ := rp_cons q5
      cases q4
      cases q6
      cases q7
      refine if_str (te_var rfl) (fun _ => ?_) fun h => absurd rfl h
      exact ret_tup2 (te_inr (ta_cons (te_ixT (te_var rfl) te_c (Same.sqT W.sb q1) (atI_nat (j := 1) rfl)) ta_nil)) te_c (finL (z := .er "") (show ev (lkR cs ms) s (.num x) = (chk x, s) from rfl) (.refl W) (by show 2 ≤ 1000; decide) (rz_chk rfl) k)
    | var wd x =>
      cases x with
      | str x =>
        obtain ⟨ew, hx⟩ := okl
        subst ew
        obtain ⟨tt, xs, rfl, q1, q2, q3⟩ := rp_tup r
        obtain ⟨y1, r1, rfl, q4, q5⟩ := rp_cons q3
        obtain ⟨y2, r2, rfl, q6, q7⟩ := rp_cons q5
        cases q4
        cases q6
        cases q7
        obtain ⟨nv, env, _⟩ := W.ok.loc x hx
        refine if_str (te_var rfl) (fun h => absurd h (show ¬ (("local" : Str) = "number") by decide +kernel)) fun _ => ?_
        refine if_str (te_var rfl) (fun _ => ?_) fun h => absurd rfl h
        have ee : ev (lkR cs ms) s (.var "local" (.str x)) = (.ok nv, s) := by
          show (match valV s.loc (.inr x : Key) with | some (.int n) => (Rz.ok n, s) | _ => (Rz.er "", s) : Rz × RS) = _
          rw [env]
        exact ret_tup2 (x := .int nv) (te_dgetS (te_dgetS (te_var rfl) te_c W.ob rfl) (te_ixT (te_var rfl) te_c (Same.sqT W.sb q1) (atI_nat (j := 1) rfl)) W.loc env) te_c (finL (z := .er "") ee (.refl W) (by show 2 ≤ 1000; decide) ⟨_, rfl⟩ k)
      | _ => exact okl.elim
    | cell nm a =>
      obtain ⟨tt, xs, rfl, q1, q2, q3⟩ := rp_tup r
      obtain ⟨y1, r1, rfl, q4, q5⟩ := rp_cons q3
      obtain ⟨y2, r2, rfl, q6, q7⟩ := rp_cons q5
      obtain ⟨y3, r3, rfl, q8, q9⟩ := rp_cons q7
      cases q4
      cases q6
      cases q9
      have hd : dpE a + 1 < n + 1 := hd
      refine if_str (te_var rfl) (fun h => absurd h (show ¬ (("cell" : Str) = "number") by decide +kernel)) fun _ => ?_
      refine if_str (te_var rfl) (fun h => absurd h (show ¬ (("cell" : Str) = "local") by decide +kernel)) fun _ => ?_
      refine asg2L (e := a) (u := y3) (te_var rfl) ?_ W nd q8 ok okl.2 (by omega) (fun i x s1 H1 ei S1 => ?_) fun z s1 H1 ez S1 => ?_
      · exact te_ifT (tt_test (by
          have t := te_eq (σ := [some (V.ref p.self), some (V.ref tt), some (V.str "cell"), none, none, none, none]) (H := H) (ta := tVar 2) (tb := tC (.str "cell")) (te_var (v := .str "cell") rfl) te_c rfl
          rw [decide_eq_true rfl] at t
          exact t)) (te_ixT (te_var rfl) te_c (Same.sqT W.sb q1) (atI_nat (j := 2) rfl))
      · have ec : ev (lkR cs ms) s (.cell nm a) = (match place cs nm i 0 with | some k => rd ms s1 k | none => (Rz.er "index", s1)) := by
          show thenE (ev (lkR cs ms) s a) _ = _
          rw [ei]
          rfl
        have W1 := S1.run
        refine set_sl (σ' := [some (.ref p.self), some (.ref tt), some (.str "cell"), some (.int i), some (.str x), none, none]) rfl ?_
        refine if_seq (tt_test (te_isN (te_var (v := .int i) rfl))) (fun h => nomatch (of_decide_eq_true h)) fun _ => ?_
        refine if_str (te_var rfl) (fun _ => ?_) fun h => absurd rfl h
        refine asg_call (vs := [.ref p.pc, .str nm, .int i]) (ta_cons (te_dgetS (te_var rfl) te_c W1.ob rfl) (ta_cons (te_ixT (te_var rfl) te_c (Same.sqT W1.sb q1) (atI_nat (j := 1) rfl)) (ta_cons (te_var rfl) ta_nil))) ⟨p.pc, cs, nm, i, rfl, W1.cel.mono W1.sb, nd, ?_⟩
        refine set_sl (σ' := [some (.ref p.self), some (.ref tt), some (.str "cell"), some (.int i), some (.str x), some (optV (place cs nm i 0)), none]) rfl ?_
        cases q : place cs nm i 0 with
        | none =>
          rw [q] at ec
          refine if_seq (tt_test (te_isN (te_var (v := .non) rfl))) (fun _ => ?_) fun h => nomatch h
          exact ret_tup2 te_c te_c (finL (z := .er "") ec S1 (by show 2 ≤ 1000; decide) rfl k)
        | some kk =>
          rw [q] at ec
          have hlt := place_lt W1.ok.pos q
          have hl := W1.ok.len
          obtain ⟨jj, rfl⟩ : ∃ jj : Nat, kk = jj := ⟨kk.toNat, by omega⟩
          have hj : jj < ms.length := by omega
          refine if_seq (tt_test (te_isN (te_var (v := .int (jj : Int)) rfl))) (fun h => nomatch (of_decide_eq_true h)) fun _ => ?_
          refine go_readL (j := jj) (p := p) (ta_cons (te_var rfl) (ta_cons (te_var rfl) ta_nil)) W1 hj fun n2 s2 H2 e2 S2 => ?_
          exact finL (z := .er "") (ec.trans e2) (S1.trans S2) (by show 2 ≤ 1000; decide) ⟨_, rfl⟩ k
      · have ec : ev (lkR cs ms) s (.cell nm a) = (.er z, s1) := by
          show thenE (ev (lkR cs ms) s a) _ = _
          rw [ez]
          rfl
        refine set_sl (σ' := [some (.ref p.self), some (.ref tt), some (.str "cell"), some .non, some (.str z), none, none]) rfl ?_
        refine if_seq (tt_test (te_isN (te_var (v := .non) rfl))) (fun _ => ?_) fun h => nomatch h
        exact ret_tup2 te_c (te_var rfl) (finL (z := .er "") ec S1 (by show 2 ≤ 1000; decide) rfl k)
    | one wd a =>
      obtain ⟨tt, xs, rfl, q1, q2, q3⟩ := rp_tup r
      obtain ⟨y1, r1, rfl, q4, q5⟩ := rp_cons q3
      obtain ⟨y2, r2, rfl, q6, q7⟩ := rp_cons q5
      cases q4
      cases q7
      have hd : dpE a + 1 < n + 1 := hd
      obtain ⟨hw1, hwc⟩ := w1_no wd ok.1
      have hwn : wd ≠ "number" := fun z => hw1 (by rw [z]; decide)
      have hwl : wd ≠ "local" := fun z => hw1 (by rw [z]; decide)
      refine if_str (te_var rfl) (fun h => absurd h hwn) fun _ => ?_
      refine if_str (te_var rfl) (fun h => absurd h hwl) fun _ => ?_
      refine asg2L (e := a) (u := y2) (te_var rfl) ?_ W nd q6 ok.2 okl (by omega) (fun i x s1 H1 ei S1 => ?_) fun z s1 H1 ez S1 => ?_
      · exact te_ifF (tt_test (by
          have t := te_eq (σ := [some (V.ref p.self), some (V.ref tt), some (V.str wd), none, none, none, none]) (H := H) (ta := tVar 2) (tb := tC (.str "cell")) (te_var (v := .str wd) rfl) te_c rfl
          rw [deq_str, decide_eq_false hwc] at t
          exact t)) (te_ixT (te_var rfl) te_c (Same.sqT W.sb q1) (atI_nat (j := 1) rfl))
      · have ec : ev (lkR cs ms) s (.one wd a) = (chk (f1 wd i), s1) := by
          show thenE (ev (lkR cs ms) s a) _ = _
          rw [ei]
          rfl
        have ri : InR i := ev_rngR W.ok (e := a) okl (by rw [ei])
        refine set_sl (σ' := [some (.ref p.self), some (.ref tt), some (.str wd), some (.int i), some (.str x), none, none]) rfl ?_
        refine if_seq (tt_test (te_isN (te_var (v := .int i) rfl))) (fun h => nomatch (of_decide_eq_true h)) fun _ => ?_
        refine if_str (te_var rfl) (fun h => absurd h hwc) fun _ => ?_
        unfold f1 at ec
        refine if_str (te_var rfl) (fun h => ?_) fun hng => ?_
        · have nn : wd ≠ "not" := fun z => absurd (z.symm.trans h) (by decide +kernel)
          rw [if_neg nn, chk_in (show InR (-i) from ⟨by unfold InR at ri; omega, by unfold InR at ri; omega⟩)] at ec
          exact ret_tup2 (te_neg (te_var rfl)) te_c (finL (z := .er "") ec S1 (by show 2 ≤ 1000; decide) ⟨_, rfl⟩ k)
        · have hnt : wd = "not" := by
            have := ok.1
            simp only [Ex.words1, List.mem_cons, List.not_mem_nil, or_false] at this
            rcases this with h | h
            · exact h
            · exact absurd h hng
          rw [if_pos hnt, chk_in (b1_in _)] at ec
          refine if_str (te_var rfl) (fun _ => ?_) fun h => absurd hnt h
          have t := te_eq (σ := [some (V.ref p.self), some (V.ref tt), some (V.str wd), some (.int i), some (.str x), none, none]) (H := H1) (ta := tVar 3) (tb := tC (.int 0)) (te_var (v := .int i) rfl) te_c rfl
          rw [deq_int] at t
          exact ret_tup2 (te_int1b t) te_c (finL (z := .er "") ec S1 (by show 2 ≤ 1000; decide) ⟨_, rfl⟩ k)
      · have ec : ev (lkR cs ms) s (.one wd a) = (.er z, s1) := by
          show thenE (ev (lkR cs ms) s a) _ = _
          rw [ez]
          rfl
        refine set_sl (σ' := [some (.ref p.self), some (.ref tt), some (.str wd), some .non, some (.str z), none, none]) rfl ?_
        refine if_seq (tt_test (te_isN (te_var (v := .non) rfl))) (fun _ => ?_) fun h => nomatch h
        exact ret_tup2 te_c (te_var rfl) (finL (z := .er "") ec S1 (by show 2 ≤ 1000; decide) rfl k)
    | two wd a b =>
      obtain ⟨tt, xs, rfl, q1, q2, q3⟩ := rp_tup r
      obtain ⟨y1, r1, rfl, q4, q5⟩ := rp_cons q3
      obtain ⟨y2, r2, rfl, q6, q7⟩ := rp_cons q5
      obtain ⟨y3, r3, rfl, q8, q9⟩ := rp_cons q7
      cases q4
      cases q9
      have hd : max (dpE a) (dpE b) + 1 < n + 1 := hd
      obtain ⟨hw1, hwc⟩ := w2_no wd ok.1
      have hwn : wd ≠ "number" := fun z => hw1 (by rw [z]; decide)
      have hwl : wd ≠ "local" := fun z => hw1 (by rw [z]; decide)
      have hwng : wd ≠ "negative" := fun z => absurd ok.1 (by rw [z]; decide)
      have hwnt : wd ≠ "not" := fun z => absurd ok.1 (by rw [z]; decide)
      refine if_str (te_var rfl) (fun h => absurd h hwn) fun _ => ?_
      refine if_str (te_var rfl) (fun h => absurd h hwl) fun _ => ?_
      refine asg2L (e := a) (u := y2) (te_var rfl) ?_ W nd q6 ok.2.1 okl.1 (by omega) (fun i x s1 H1 ei S1 => ?_) fun z s1 H1 ez S1 => ?_
      · exact te_ifF (tt_test (by
          have t := te_eq (σ := [some (V.ref p.self), some (V.ref tt), some (V.str wd), none, none, none, none]) (H := H) (ta := tVar 2) (tb := tC (.str "cell")) (te_var (v := .str wd) rfl) te_c rfl
          rw [deq_str, decide_eq_false hwc] at t
          exact t)) (te_ixT (te_var rfl) te_c (Same.sqT W.sb q1) (atI_nat (j := 1) rfl))
      · have ec : ev (lkR cs ms) s (.two wd a b) = (if dec wd [i] = true then resE (lkR cs ms) s1 (.two wd a b) [i] else thenE (ev (lkR cs ms) s1 b) fun j t => resE (lkR cs ms) t (.two wd a b) [i, j]) := by
          show thenE (ev (lkR cs ms) s a) _ = _
          rw [ei]
          rfl
        have ri : InR i := ev_rngR W.ok (e := a) okl.1 (by rw [ei])
        refine set_sl (σ' := [some (.ref p.self), some (.ref tt), some (.str wd), some (.int i), some (.str x), none, none]) rfl ?_
        refine if_seq (tt_test (te_isN (te_var (v := .int i) rfl))) (fun h => nomatch (of_decide_eq_true h)) fun _ => ?_
        refine if_str (te_var rfl) (fun h => absurd h hwc) fun _ => ?_
        refine if_str (te_var rfl) (fun h => absurd h hwng) fun _ => ?_
        refine if_str (te_var rfl) (fun h => absurd h hwnt) fun _ => ?_
        refine and_in (zs := ["and", "or"]) (b := decide (V.bl (!decide (i = 0)) = V.bl (decide (wd = "or")))) (te_var rfl) (ta_cons te_c (ta_cons te_c ta_nil)) (by decide) (fun H2 => tt_test (te_eq (te_ne0 rfl) (te_eqs rfl) rfl)) (fun q hq hin hb => ?_) fun q hq hor => ?_
        · have hb : (!decide (i = 0)) = decide (wd = "or") := V.bl.inj (of_decide_eq_true hb)
          have hlog : logic wd := by simpa [logic] using hin
          have hdec : dec wd [i] = true := by
            rcases hlog with rfl | rfl
            · rw [dec_and]
              simpa [and_or] using hb
            · rw [dec_or]
              simpa using hb
          rw [if_pos hdec, resE_two, if_pos hlog] at ec
          refine ret_tup2 (te_int1b (te_eqs rfl)) te_c (finL (z := .er "") ec (S1.same (Same.upd hq)) (by show 2 ≤ 1000; decide) ?_ k)
          rw [← hb]
          exact ⟨_, rfl⟩
        · have hdec : dec wd [i] = false := by
            by_cases hlog : logic wd
            · have hb : decide (V.bl (!decide (i = 0)) = V.bl (decide (wd = "or"))) = false := by
                rcases hor with h | h
                · exact absurd (by simpa [logic] using hlog) h
                · exact h
              have hb : (!decide (i = 0)) ≠ decide (wd = "or") := fun z => of_decide_eq_false hb (congrArg V.bl z)
              rcases hlog with rfl | rfl
              · rw [dec_and]
                simpa [and_or] using hb
              · rw [dec_or]
                simpa using hb
            · exact dec_no hlog
          rw [if_neg (by rw [hdec]; decide)] at ec
          have S2 := S1.same (Same.upd (o := .lst ((["and", "or"] : List Str).map V.str)) hq)
          generalize upd H1 q (HO.lst ((["and", "or"] : List Str).map V.str)) = H2 at S2 ⊢
          refine asg2L (e := b) (u := y3) (te_var rfl) (te_ixT (te_var rfl) te_c (Same.sqT S2.run.sb q1) (atI_nat (j := 2) rfl)) S2.run nd q8 ok.2.2 okl.2 (by omega) (fun j x2 s3 H3 ej S3 => ?_) fun z s3 H3 ez S3 => ?_
          · rw [ej] at ec
            have ec : ev (lkR cs ms) s (.two wd a b) = resE (lkR cs ms) s3 (.two wd a b) [i, j] := ec
            have rj : InR j := ev_rngR S2.run.ok (e := b) okl.2 (by rw [ej])
            refine set_sl (σ' := [some (.ref p.self), some (.ref tt), some (.str wd), some (.int i), some (.str x2), none, some (.int j)]) rfl ?_
            refine if_seq (tt_test (te_isN (te_var (v := .int j) rfl))) (fun h => nomatch (of_decide_eq_true h)) fun _ => ?_
            refine in_seq (zs := ["and", "or"]) (te_var rfl) (ta_cons te_c (ta_cons te_c ta_nil)) (by decide) (fun q3 hq3 hin => ?_) fun q3 hq3 hin => ?_
            · have hlog : logic wd := by simpa [logic] using hin
              rw [resE_two, if_pos hlog] at ec
              exact ret_tup2 (te_int1b (te_ne0 rfl)) te_c (finL (z := .er "") ec ((S2.trans S3).same (Same.upd hq3)) (by show 2 ≤ 1000; decide) ⟨_, rfl⟩ k)
            · have hlog : ¬ logic wd := fun z => hin (by simpa [logic] using z)
              have e5 : resE (lkR cs ms) s3 (.two wd a b) [i, j] = (resTwo wd i j, s3) := by
                rw [resE_two, if_neg hlog]
                unfold resTwo
                show (match f2 wd i j with | some n => (chk n, s3) | none => (Rz.er "zero", s3)) = _
                cases f2 wd i j <;> rfl
              have S4 := (S2.trans S3).same (Same.upd (o := .lst ((["and", "or"] : List Str).map V.str)) hq3)
              exact go_two (a := i) (b := j) (ta_cons (te_var rfl) (ta_cons (te_var rfl) (ta_cons (te_var rfl) ta_nil))) ri rj ok.1 hlog fun t H' xs sm ht rz => k t H' xs _ _ (ec.trans e5) (S4.same sm) ht rz
          · rw [ez] at ec
            have ec : ev (lkR cs ms) s (.two wd a b) = (.er z, s3) := ec
            refine set_sl (σ' := [some (.ref p.self), some (.ref tt), some (.str wd), some (.int i), some (.str z), none, some .non]) rfl ?_
            refine if_seq (tt_test (te_isN (te_var (v := .non) rfl))) (fun _ => ?_) fun h => nomatch h
            exact ret_tup2 te_c (te_var rfl) (finL (z := .er "") ec (S2.trans S3) (by show 2 ≤ 1000; decide) rfl k)
      · have ec : ev (lkR cs ms) s (.two wd a b) = (.er z, s1) := by
          show thenE (ev (lkR cs ms) s a) _ = _
          rw [ez]
          rfl
        refine set_sl (σ' := [some (.ref p.self), some (.ref tt), some (.str wd), some .non, some (.str z), none, none]) rfl ?_
        refine if_seq (tt_test (te_isN (te_var (v := .non) rfl))) (fun _ => ?_) fun h => nomatch h
        exact ret_tup2 te_c (te_var rfl) (finL (z := .er "") ec S1 (by show 2 ≤ 1000; decide) rfl k)
end
end K13

namespace K13
open PySem L2 YF YG NdefX
/-! ### the law's runs: what they come to -/
def ReT : Re → List V → Prop
  | .k w, xs => xs = [.str w, .non]
  | .f r, xs => xs = [.str "fault", .str r]
  | .x, _ => False
theorem dp_stp : ∀ e : Ex, dpE e ≤ stp e
  | .num _ => Nat.zero_le _
  | .var _ _ => Nat.zero_le _
  | .cell _ a => by
    have := dp_stp a
    show dpE a + 1 ≤ stp a + 2
    omega
  | .one _ a => by
    have := dp_stp a
    show dpE a + 1 ≤ stp a + 2
    omega
  | .two _ a b => by
    have := dp_stp a
    have := dp_stp b
    show max (dpE a) (dpE b) + 1 ≤ stp a + stp b + 3
    omega
section
variable {P : Program} {w : World} {K : PySem.W.Frag} {mg : Str → Option Value} {base : Heap} {A : Adr}
def spRunsL (K : PySem.W.Frag) (n : Nat) : Sp := fun vs H Q _ => ∃ (p : Pl) (B : Hp) (names : List Str) (cs : List Cl) (ms : List Int) (s : RS) (b : Bd) (v : V), vs = [.ref p.self, v] ∧ WlH K H B p names cs ms s ∧ (cs.map (·.1)).Nodup ∧ Rp K B (.lst b.row) [v] ∧ b.ok names ∧ b.dp < n ∧ (exB cs ms b s).1 ≠ .x ∧
  ∀ t H' xs re s' q, exB cs ms b s = (re, s') → StL K H B p names cs ms s' H' q → H' t = some (.tup xs) → ReT re xs → Q (.ref t) H'
def spOneL (K : PySem.W.Frag) (Pd : Sm → Prop) : Sp := fun vs H Q _ => ∃ (p : Pl) (B : Hp) (names : List Str) (cs : List Cl) (ms : List Int) (s : RS) (b : Sm) (v : V), vs = [.ref p.self, v] ∧ WlH K H B p names cs ms s ∧ (cs.map (·.1)).Nodup ∧ Rp K B b.d [v] ∧ b.ok names ∧ Pd b ∧ (exS cs ms b s).1 ≠ .x ∧
  ∀ t H' xs re s' q, exS cs ms b s = (re, s') → StL K H B p names cs ms s' H' q → H' t = some (.tup xs) → ReT re xs → Q (.ref t) H'
/-- end != ("done", None) -/
theorem ne_done {H : Hp} {t q : Addr} {xs : List V} {re : Re} {Q : VK} (ht : H t = some (.tup xs)) (hr : ReT re xs) (so : ∀ z : Str, V.str z ∈ xs → PyData.strOk z = true) (hq : H q = some (.tup [.str "done", .non])) (k1 : re = .k "done" → Q (.bl false) H) (k2 : re ≠ .k "done" → Q (.bl true) H) : rNeD K (.ref t) (.ref q) H Q := by
  have hD : Dp K H (.ref q) (.tuple [.str "done", .none]) := .tup (SqT.of hq) (.cons (.str _) (.cons .non .nil))
  have oD : PyData.strOk ("done" : Str) = true := by decide +kernel
  have sD : SeqAt.shaped (.tuple [.str "done", .none]) = true := by simp [SeqAt.shaped, PyData.canLay0, PyData.canLayAll0, PyData.depth, PyData.depthAll, oD]
  cases re with
  | x => exact hr.elim
  | k wd =>
    have hr : xs = [.str wd, .non] := hr
    subst hr
    refine ⟨.tuple [.str wd, .none], .tuple [.str "done", .none], .tup (SqT.of ht) (.cons (.str _) (.cons .non .nil)), hD, by simp [SeqAt.shaped, PyData.canLay0, PyData.canLayAll0, PyData.depth, PyData.depthAll, so wd (by simp)], sD, ?_⟩
    by_cases h : wd = "done"
    · have e : (!PyData.eqv (.tuple [.str wd, .none]) (.tuple [.str "done", .none])) = false := by simp [PyData.eqv, PyData.eqvAll, h]
      rw [e]
      exact k1 (by rw [h])
    · have e : (!PyData.eqv (.tuple [.str wd, .none]) (.tuple [.str "done", .none])) = true := by simp [PyData.eqv, PyData.eqvAll, h]
      rw [e]
      exact k2 fun z => h (Re.k.inj z)
  | f r =>
    have hr : xs = [.str "fault", .str r] := hr
    subst hr
    refine ⟨.tuple [.str "fault", .str r], .tuple [.str "done", .none], .tup (SqT.of ht) (.cons (.str _) (.cons (.str _) .nil)), hD, by simp [SeqAt.shaped, PyData.canLay0, PyData.canLayAll0, PyData.depth, PyData.depthAll, so r (by simp), so "fault" (by simp)], sD, ?_⟩
    have e : (!PyData.eqv (.tuple [.str "fault", .str r]) (.tuple [.str "done", .none])) = true := by
      have h : ¬ (("fault" : Str) = "done") := by decide +kernel
      simp [PyData.eqv, PyData.eqvAll, h]
    rw [e]
    exact k2 fun z => nomatch z
end
end K13

namespace K13
open PySem L2 YF NdefX
/-! ### words and reasons are plain texts -/
def SoR (r : Rz) : Prop := ∀ z, r = .er z → PyData.strOk z = true
def SoE (r : Re) : Prop := ∀ z, (r = .k z ∨ r = .f z) → PyData.strOk z = true
theorem so_chk (n : Int) : SoR (chk n) := fun z h => by
  unfold chk at h
  by_cases q : InR n
  · rw [if_pos q] at h
    cases h
  · rw [if_neg q] at h
    cases h
    decide +kernel
theorem so_er {r : Str} (h : PyData.strOk r = true) : SoR (.er r) := fun z e => by
  cases e
  exact h
theorem so_ok {n : Int} : SoR (.ok n) := fun z e => nomatch e
theorem so_k {r : Str} (h : PyData.strOk r = true) : SoE (.k r) := fun z e => by
  rcases e with e | e
  · cases e
    exact h
  · cases e
theorem so_f {r : Str} (h : PyData.strOk r = true) : SoE (.f r) := fun z e => by
  rcases e with e | e
  · cases e
  · cases e
    exact h
theorem so_x : SoE .x := fun z e => by
  rcases e with e | e <;> cases e
section
variable {cs : List Cl} {ms : List Int} {names : List Str}
theorem lk_so {s : RS} {e : Ex} {is : List Int} : SoR (lkR cs ms s e is).1 := by
  have no : SoR (.er "") := so_er (by decide +kernel)
  cases e with
  | var w x =>
    cases x with
    | str x =>
      show SoR (match valV s.loc (.inr x : Key) with | some (.int n) => (Rz.ok n, s) | _ => (Rz.er "", s) : Rz × RS).1
      split
      · exact so_ok
      · exact no
    | _ => exact no
  | cell nm a =>
    show SoR (match place cs nm (is.headD 0) 0 with | some k => rd ms s k | none => (Rz.er "index", s)).1
    cases place cs nm (is.headD 0) 0 with
    | none => exact so_er (by decide +kernel)
    | some k =>
      show SoR (rd ms s k).1
      unfold rd
      split <;> exact so_ok
  | _ => exact no
theorem res_so {s : RS} {e : Ex} {is : List Int} : SoR (resE (lkR cs ms) s e is).1 := by
  cases e with
  | two w a b =>
    rw [resE_two]
    by_cases q : logic w
    · rw [if_pos q]
      exact so_ok
    · rw [if_neg q]
      cases f2 w (is.headD 0) (is.getLastD 0) with
      | none => exact so_er (by decide +kernel)
      | some n => exact so_chk n
  | var w x => exact lk_so (e := .var w x)
  | cell x a => exact lk_so (e := .cell x a)
  | num n => exact so_chk n
  | one w a => exact so_chk _
theorem then_so {r : Rz × RS} {f : Int → RS → Rz × RS} (h : SoR r.1) (k : ∀ i t, SoR (f i t).1) : SoR (thenE r f).1 := by
  obtain ⟨a, t⟩ := r
  cases a with
  | ok i => exact k i t
  | er z => exact h
theorem ev_so : ∀ {e : Ex} {s : RS}, SoR (ev (lkR cs ms) s e).1
  | .num n, s => res_so (e := .num n)
  | .var w x, s => res_so (e := .var w x)
  | .cell x a, s => then_so (ev_so (e := a)) fun i t => res_so (e := .cell x a)
  | .one w a, s => then_so (ev_so (e := a)) fun i t => res_so (e := .one w a)
  | .two w a b, s => then_so (ev_so (e := a)) fun i t => by
    by_cases q : dec w [i] = true
    · rw [if_pos q]
      exact res_so (e := .two w a b)
    · rw [if_neg q]
      exact then_so (ev_so (e := b)) fun j u => res_so (e := .two w a b)
theorem val_so {r : Rz × RS} {f : Int → RS → Re × RS} (h : SoR r.1) (k : ∀ i t, SoE (f i t).1) : SoE (valE r f).1 := by
  obtain ⟨a, t⟩ := r
  cases a with
  | ok i => exact k i t
  | er z => exact so_f (h z rfl)
theorem and_so {r : Re × RS} {f : RS → Re × RS} (h : SoE r.1) (k : ∀ t, SoE (f t).1) : SoE (andB r f).1 := by
  obtain ⟨a, t⟩ := r
  cases a with
  | k w =>
    show SoE (if w = "done" then f t else (.k w, t)).1
    by_cases q : w = "done"
    · rw [if_pos q]
      exact k t
    · rw [if_neg q]
      exact h
  | f z => exact h
  | x => exact h
theorem done_so : SoE (.k "done") := so_k (by decide +kernel)
theorem loop_so {f : RS → Re × RS} (k : ∀ t, SoE (f t).1) : ∀ (n : Nat) (s : RS), SoE (loopB n f s).1
  | 0, s => done_so
  | n + 1, s => and_so (k s) fun t => loop_so k n t
mutual
theorem exS_so : ∀ (b : Sm) (s : RS), b.ok names → SoE (exS cs ms b s).1
  | .set x e, s, _ => val_so ev_so fun i t => done_so
  | .put nm i e, s, _ => val_so ev_so fun i t => val_so ev_so fun j u => by
    cases place cs nm i 0 with
    | none => exact so_f (by decide +kernel)
    | some k => exact done_so
  | .later e, s, _ => val_so ev_so fun i t => by
    by_cases l : t.ltr.length < 100000
    · rw [if_pos l]
      exact done_so
    · rw [if_neg l]
      exact so_x
  | .cond c x y, s, ok => val_so ev_so fun i t => by
    by_cases l : i ≠ 0
    · rw [if_pos l]
      exact exB_so x t ok.2.1
    · rw [if_neg l]
      exact exB_so y t ok.2.2
  | .rep c x, s, ok => val_so ev_so fun i t => by
    by_cases l : i < 0 ∨ 20 < i
    · rw [if_pos l]
      exact so_f (by decide +kernel)
    · rw [if_neg l]
      exact loop_so (fun t => exB_so x t ok.2) _ _
  | .choose x y, s, ok => by
    have hx := exB_so x s ok.1
    show SoE (match exB cs ms x s with | (.k w, s1) => if w = "retry" then exB cs ms y { s with rds := s1.rds } else (.k w, s1) | (.f z, s1) => (.f z, s1) | (.x, s1) => (.x, s1) : Re × RS).1
    cases e : exB cs ms x s with
    | mk a t =>
      rw [e] at hx
      cases a with
      | k w =>
        show SoE (if w = "retry" then exB cs ms y { s with rds := t.rds } else (.k w, t)).1
        by_cases q : w = "retry"
        · rw [if_pos q]
          exact exB_so y _ ok.2
        · rw [if_neg q]
          exact hx
      | f z => exact hx
      | x => exact hx
  | .word w, s, ok => so_k (by
    have ok : w ∈ (["retry", "undo"] : List Str) := ok
    rcases List.mem_cons.mp ok with e | e
    · rw [e]
      decide +kernel
    · rw [List.mem_singleton.mp e]
      decide +kernel)
theorem exB_so : ∀ (b : Bd) (s : RS), b.ok names → SoE (exB cs ms b s).1
  | .nil, s, _ => done_so
  | .cons a r, s, ok => and_so (exS_so a s ok.1) fun t => exB_so r t ok.2
end
end
end K13

namespace K13
open PySem L2 YF YG NdefX
theorem or_un {σ : L2.St} {H : Hp} {t u : TT} {Q : Bool → Hp → Prop} (h : t σ H fun c H1 => if c = true then Q true H1 else u σ H1 Q) : tOr t u σ H Q := h
theorem test_un {σ : L2.St} {H : Hp} {te : TE} {Q : Bool → Hp → Prop} (h : te σ H fun x H1 => ∃ k, x = .bl k ∧ Q k H1) : tTest te σ H Q := h
theorem no_go {P Q : Prop} (h : Q) : if false = true then P else Q := by
  rw [if_neg (by decide)]
  exact h
theorem yes_go2 {P Q : Prop} (h : P) : if true = true then P else Q := by
  rw [if_pos rfl]
  exact h
theorem and_done {s : RS} {g : RS → Re × RS} : andB (.k "done", s) g = g s := by
  show (if ("done" : Str) = "done" then g s else (Re.k "done", s)) = _
  rw [if_pos rfl]
theorem and_end {re : Re} {s : RS} {g : RS → Re × RS} (h : re ≠ .k "done") : andB (re, s) g = (re, s) := by
  cases re with
  | k w =>
    show (if w = "done" then g s else (Re.k w, s)) = _
    rw [if_neg fun z => h (by rw [z])]
  | f z => rfl
  | x => rfl
theorem so_xs {re : Re} {xs : List V} (h : SoE re) (r : ReT re xs) : ∀ z : Str, V.str z ∈ xs → PyData.strOk z = true := fun z hz => by
  cases re with
  | x => exact r.elim
  | k w =>
    have r : xs = [.str w, .non] := r
    subst r
    simp only [List.mem_cons, List.not_mem_nil, or_false] at hz
    rcases hz with e | e
    · cases e
      exact h _ (.inl rfl)
    · cases e
  | f w =>
    have r : xs = [.str "fault", .str w] := r
    subst r
    simp only [List.mem_cons, List.not_mem_nil, or_false] at hz
    rcases hz with e | e
    · cases e
      decide +kernel
    · cases e
      exact h _ (.inr rfl)
section
variable {P : Program} {w : World} {K : PySem.W.Frag} {mg : Str → Option Value} {base : Heap} {A : Adr}
theorem runs_of_one {n L : Nat} (T : Txt K mg A) (ih : FnOk P w K mg base CX0 L A.a__law_run_one A.d__law_run_one ["world", "statement"] (spOneL K fun b => b.dp < n + 1)) : FnOk P w K mg base CX0 (L + 1) A.a__law_runs A.d__law_runs ["world", "body"] (spRunsL K (n + 1)) := by
  refine T.F__law_runs.ok (k := L) sc_law_runs (fun vs H Q E ⟨_, _, _, _, _, _, _, _, e, _⟩ => by rw [e]; rfl) (fun cdv A' outer s0 H vs Q E hr h => ?_)
  obtain ⟨p, B, names, cs, ms, s, b, v, rfl, W, nd, r, ok, hdp, nx, k⟩ := h
  refine ⟨_, pss_cons (ps_for PassesOwn.never rfl (pi_list (pv 1)) (pg_name (i := 2) sc_law_runs.nd rfl (Or.inl rfl))
  (pss_cons (ps_set (i := 3) sc_law_runs.nd rfl (Or.inl rfl) (pe_call ih hr rfl T.g__law_run_one T.F__law_run_one.kp T.b__law_run_one .nil pass0 (pa_cons (pv 0) (pa_cons (pv 2) pa_nil))))
  (pss_one (ps_if (pt_cmpR (op_neD hr.units) (pv 3) (pe_tup (pa_cons (pe_str) (pa_cons (pe_non) pa_nil))) (nomark _))
  (pss_one (ps_ret (pv 3)))
  (pss_nil)))))
  (pss_one (ps_ret (pe_tup (pa_cons (pe_str) (pa_cons (pe_non) pa_nil))))), ?_⟩
  obtain ⟨a, xs, e0, h1, h2, h3⟩ := r
  cases e0
  refine ⟨_, rfl, a, rfl, ⟨_, Same.sqL W.sb h1⟩, for_list (K := K) (a := a) (xs := xs) (fun j σ H' => ∃ (v2 v3 : Option V) (s' : RS) (q : Pl), σ = [some (.ref q.self), some (.ref a), v2, v3] ∧ StL K H B p names cs ms s' H' q ∧ exB cs ms b s = exB cs ms (tl b j) s') ⟨none, none, s, p, rfl, .refl W, by cases b <;> rfl⟩ (fun j σ H' _ ⟨_, _, _, _, _, S, _⟩ => Same.sqL S.run.sb h1) ?_ ?_⟩
  · rintro j x σ H1 hj ⟨v2, v3, s', q, rfl, S, ex⟩
    obtain ⟨st, et, rs, oks, dps⟩ := row_at h3 hj ok
    rw [et] at ex
    have ex : exB cs ms b s = andB (exS cs ms st s') (exB cs ms (tl b (j + 1))) := ex
    dsimp only [gName]
    refine set_sl (σ' := [some (.ref q.self), some (.ref a), some x, v3]) rfl ?_
    refine asg_un (call_un ((ta_cons (te_var rfl) (ta_cons (te_var rfl) ta_nil)) _ ⟨q, B, names, cs, ms, s', st, x, rfl, S.run, nd, rs, oks, by omega, fun z => nx (by rw [ex]; exact andB_x z), fun t H2 xs2 re s2 q2 e2 S2 ht hr => ?_⟩))
    have so := so_xs (re := re) (by have := exS_so (cs := cs) (ms := ms) st s' oks; rw [e2] at this; exact this) hr
    rw [e2] at ex
    try dsimp only
    refine set_sl (σ' := [some (.ref q.self), some (.ref a), some x, some (.ref t)]) rfl ?_
    refine iff_un (test_un (op_un (Te.go (te_var rfl) (tup_un ((ta_cons te_c (ta_cons te_c ta_nil)) _ ⟨show 2 ≤ sizeLine by decide, fun u hu => ?_⟩)))))
    have ht' := Same.upd (o := .tup [.str "done", .non]) hu _ _ ht
    refine ne_done ht' hr so upd_same (fun e => ⟨false, rfl, no_go ?_⟩) fun e => ⟨true, rfl, yes_go2 ?_⟩
    · rw [e, and_done] at ex
      exact ⟨_, _, s2, q2, by rw [S2.nx.self], (S.trans S2).same (Same.upd hu), ex⟩
    · rw [and_end e] at ex
      exact ret_te (te_var rfl) (k t _ xs2 re s2 q2 ex ((S.trans S2).same (Same.upd hu)) ht' hr)
  · rintro σ H1 ⟨v2, v3, s', q, rfl, S, ex⟩
    rw [row_end h3] at ex
    dsimp only
    exact ret_tup2 te_c te_c ⟨show 2 ≤ sizeLine by decide, fun t ht => k t _ _ (.k "done") s' q ex (S.same (Same.upd ht)) upd_same rfl⟩
end
end K13

namespace K13
open PySem L2 YF YG NdefX
section
variable {P : Program} {w : World} {K : PySem.W.Frag} {mg : Str → Option Value} {base : Heap} {A : Adr}
/-- the copies made before are the world's again -/
theorem swapL {H H2 B : Hp} {p q : Pl} {names : List Str} {cs : List Cl} {ms : List Int} {s s2 : RS} {l1 w1 t1 : Addr} {u1 u2 : Kv} (W : WlH K H B p names cs ms s) (S : StL K H B p names cs ms s2 H2 q) (hl : H l1 = none) (hw : H w1 = none) (ht : H t1 = none) (nlw : l1 ≠ w1) (el : H2 l1 = some (.dK s.loc)) (ew : H2 w1 = some (.dK s.wrs)) (et : H2 t1 = some (.lst (s.ltr.map V.int))) :
    StL K H B p names cs ms { s with rds := s2.rds } (upd (upd (upd H2 q.self (.dK u1)) q.self (.dK u2)) q.self (.dK (kW { q with dl := l1, dw := w1, ll := t1 }))) { q with dl := l1, dw := w1, ll := t1 } := by
  have fresh : ∀ {x : Addr}, H x = none → x ∉ ownL p := fun {x} h m => by
    simp only [ownL, List.mem_cons, List.not_mem_nil, or_false] at m
    rcases m with rfl | rfl | rfl | rfl | rfl
    · rw [W.ob] at h; cases h
    · rw [W.loc] at h; cases h
    · rw [W.rds] at h; cases h
    · rw [W.wrs] at h; cases h
    · rw [W.ltr] at h; cases h
  have ns : ∀ {x : Addr}, H x = none → x ≠ q.self := fun {x} h z => fresh h (by rw [z, S.nx.self]; simp [ownL])
  have ndr : ∀ {x : Addr}, H x = none → x ≠ q.dr := fun {x} h z => fresh h (by rw [z, S.nx.dr]; simp [ownL])
  have back : ∀ {x : Addr}, x ≠ q.self → (upd (upd (upd H2 q.self (.dK u1)) q.self (.dK u2)) q.self (.dK (kW { q with dl := l1, dw := w1, ll := t1 }))) x = H2 x := fun n => by rw [upd_ne n, upd_ne n, upd_ne n]
  have noB : ∀ {x : Addr}, H x = none → B x = none := fun {x} h => by
    cases e : B x with
    | none => rfl
    | some o =>
      have := W.sb _ _ e
      rw [h] at this
      cases this
  have sb : Same B (upd (upd (upd H2 q.self (.dK u1)) q.self (.dK u2)) q.self (.dK (kW { q with dl := l1, dw := w1, ll := t1 }))) := fun b o e => by
    rw [back fun z => by rw [z, S.run.off q.self (by simp [ownL])] at e; cases e]
    exact S.run.sb _ _ e
  have O := W.ok
  refine ⟨⟨upd_same, ?_, ?_, ?_, ?_, ndr hl, ndr hw, nlw, (ns hl).symm, S.run.n5, (ns hw).symm, sb, fun b hb => ?_, S.run.cel, S.run.mem, ⟨O.loc, S.run.ok.rds, O.wrs, O.ltr, O.pos, O.len, O.big, O.mem, O.lc⟩⟩, ⟨S.nx.self, S.nx.pc, S.nx.pm, S.nx.dr, .inr hl, .inr hw, .inr ht⟩, fun x o hx e => ?_, fun x h => ?_⟩
  · show (upd _ _ _) l1 = _
    rw [back (ns hl)]
    exact el
  · show (upd _ _ _) q.dr = _
    rw [back S.run.n5.symm]
    exact S.run.rds
  · show (upd _ _ _) w1 = _
    rw [back (ns hw)]
    exact ew
  · show (upd _ _ _) t1 = _
    rw [back (ns ht)]
    exact et
  · simp only [ownL, List.mem_cons, List.not_mem_nil, or_false] at hb
    rcases hb with rfl | rfl | rfl | rfl | rfl
    · exact S.run.off _ (by simp [ownL])
    · exact noB hl
    · exact S.run.off _ (by simp [ownL])
    · exact noB hw
    · exact noB ht
  · rw [back fun z => hx (by rw [z, S.nx.self]; simp [ownL])]
    exact S.fr x o hx e
  · by_cases z : x = q.self
    · rw [z, upd_same]
      exact fun y => nomatch y
    · rw [back z]
      exact S.al x h
def isChL (n : Nat) : Sm → Prop := fun b => (∃ x y, b = .choose x y) ∧ b.dp < n + 1
theorem ok_law_chosen {n L : Nat} (T : Txt K mg A) (ih : FnOk P w K mg base CX0 L A.a__law_runs A.d__law_runs ["world", "body"] (spRunsL K n)) : FnOk P w K mg base CX0 (L + 1) A.a__law_chosen A.d__law_chosen ["world", "statement"] (spOneL K (isChL n)) := by
  refine T.F__law_chosen.ok (k := L) sc_law_chosen (fun vs H Q E ⟨_, _, _, _, _, _, _, _, e, _⟩ => by rw [e]; rfl) (fun cdv A' outer s0 H vs Q E hr h => ?_)
  obtain ⟨p, B, names, cs, ms, s, b, v, rfl, W, nd, r, ok, ⟨⟨x, y, rfl⟩, hdp⟩, nx, k⟩ := h
  refine ⟨_, pss_cons (ps_set (i := 2) sc_law_chosen.nd rfl (Or.inl rfl) (pe_tup (pa_cons (pe_callTy call_dictD (by rfl) T.n_dict (by decide +kernel) (pa_cons (pe_dget (hu_of hr) (pv 0) (pe_str) (fun _ _ => rfl)) pa_nil)) (pa_cons (pe_callTy call_dictD (by rfl) T.n_dict (by decide +kernel) (pa_cons (pe_dget (hu_of hr) (pv 0) (pe_str) (fun _ _ => rfl)) pa_nil)) (pa_cons (pe_callTy call_list_of (by rfl) T.n_list (by decide +kernel) (pa_cons (pe_dget (hu_of hr) (pv 0) (pe_str) (fun _ _ => rfl)) pa_nil)) pa_nil)))))
  (pss_cons (ps_set (i := 3) sc_law_chosen.nd rfl (Or.inl rfl) (pe_call ih hr rfl T.g__law_runs T.F__law_runs.kp T.b__law_runs .nil pass0 (pa_cons (pv 0) (pa_cons (pe_ix ix_tup (pv 1) (pe_int) (fun _ _ => rfl)) pa_nil))))
  (pss_cons (ps_if (pt_cmpR op_ne (pe_ix ix_tup (pv 3) (pe_int) (fun _ _ => rfl)) (pe_str) (nomark _))
  (pss_one (ps_ret (pv 3)))
  (pss_nil))
  (pss_cons (ps_asg (pv 2) (pg_tup (by rfl) (pgs_cons (pg_sub (pv 0) (pe_str) (set_dict (hu_of hr))) (pgs_cons (pg_sub (pv 0) (pe_str) (set_dict (hu_of hr))) (pgs_cons (pg_sub (pv 0) (pe_str) (set_dict (hu_of hr))) pgs_nil)))))
  (pss_one (ps_ret (pe_call ih hr rfl T.g__law_runs T.F__law_runs.kp T.b__law_runs .nil pass0 (pa_cons (pv 0) (pa_cons (pe_ix ix_tup (pv 1) (pe_int) (fun _ _ => rfl)) pa_nil)))))))), ?_⟩
  obtain ⟨t, xs, rfl, h1, h2, h3⟩ := rp_tup r
  obtain ⟨x1, r1, rfl, q1, q2⟩ := rp_cons h3
  obtain ⟨x2, r2, rfl, q3, q4⟩ := rp_cons q2
  obtain ⟨x3, r3, rfl, q5, q6⟩ := rp_cons q4
  cases q1
  cases q6
  have hdp : max x.dp y.dp + 1 < n + 1 := hdp
  have ex0 : exS cs ms (.choose x y) s = (match exB cs ms x s with | (.k w, s1) => if w = "retry" then exB cs ms y { s with rds := s1.rds } else (.k w, s1) | (.f z, s1) => (.f z, s1) | (.x, s1) => (.x, s1)) := rfl
  have tg : ∀ {G : Hp} {σ : L2.St} {nm : Str} {a : Addr}, WlH K G B p names cs ms s → σ[0]? = some (some (.ref p.self)) → valV (kW p) (.inr nm : Key) = some (.ref a) → Te (tDGet (tVar 0) (tC (.str nm))) σ G (.ref a) := fun V h e => te_dgetS (te_var h) te_c V.ob e
  refine asg_un (tup_un (cons_un (cb_un ((ta_cons (tg (nm := "locals") W rfl rfl) ta_nil) _ ⟨p.dl, s.loc, rfl, .inl W.loc, fun l1 hl1 => ?_⟩))))
  have g1 : Same H (upd H l1 (.dK s.loc)) := Same.upd hl1
  have e1 : (upd H l1 (.dK s.loc)) l1 = some (.dK s.loc) := upd_same
  generalize upd H l1 (HO.dK s.loc) = H1 at g1 e1 ⊢
  have W1 := W.same g1
  refine cons_un (cb_un ((ta_cons (tg (nm := "writes") W1 rfl rfl) ta_nil) _ ⟨p.dw, s.wrs, rfl, .inl W1.wrs, fun w1 hw1 => ?_⟩))
  have nlw : l1 ≠ w1 := ne_of_none e1 hw1
  have g2 : Same H1 (upd H1 w1 (.dK s.wrs)) := Same.upd hw1
  have e2 : (upd H1 w1 (.dK s.wrs)) w1 = some (.dK s.wrs) := upd_same
  have e1b := g2 _ _ e1
  generalize upd H1 w1 (HO.dK s.wrs) = H2 at g2 e2 e1b ⊢
  have W2 := W1.same g2
  refine cons_un (cb_un ((ta_cons (tg (nm := "later") W2 rfl rfl) ta_nil) _ ⟨p.ll, _, rfl, .inl (SqL.of W2.ltr), fun t1 ht1 => nil_un ⟨show 3 ≤ sizeLine by decide, fun kt hkt => ?_⟩⟩))
  have g3 : Same H2 (upd H2 t1 (.lst (s.ltr.map V.int))) := Same.upd ht1
  have e3 : (upd H2 t1 (.lst (s.ltr.map V.int))) t1 = some (.lst (s.ltr.map V.int)) := upd_same
  have hw0 := none_of g1 hw1
  have ht0 := none_of (g1.trans g2) ht1
  have e1c := g3 _ _ e1b
  have e2c := g3 _ _ e2
  generalize upd H2 t1 (HO.lst (s.ltr.map V.int)) = H3 at g3 e3 e1c e2c hkt ⊢
  have g4 : Same H3 (upd H3 kt (.tup [.ref l1, .ref w1, .ref t1])) := Same.upd hkt
  have e4 : (upd H3 kt (.tup [.ref l1, .ref w1, .ref t1])) kt = some (.tup [.ref l1, .ref w1, .ref t1]) := upd_same
  generalize upd H3 kt (HO.tup [.ref l1, .ref w1, .ref t1]) = H4 at g4 e4 ⊢
  have ga := ((g1.trans g2).trans g3).trans g4
  have W4 := W.same ga
  have fresh : ∀ {z : Addr}, H z = none → z ∉ ownL p := fun {z} h m => by
    simp only [ownL, List.mem_cons, List.not_mem_nil, or_false] at m
    rcases m with rfl | rfl | rfl | rfl | rfl
    · rw [W.ob] at h; cases h
    · rw [W.loc] at h; cases h
    · rw [W.rds] at h; cases h
    · rw [W.wrs] at h; cases h
    · rw [W.ltr] at h; cases h
  have hk0 := none_of ((g1.trans g2).trans g3) hkt
  try dsimp only
  refine set_sl (σ' := [some (.ref p.self), some (.ref t), some (.ref kt), none]) rfl ?_
  refine asg_un (call_un ((ta_cons (te_var rfl) (ta_cons (te_ixT (te_var rfl) te_c (Same.sqT W4.sb h1) (atI_nat (j := 1) rfl)) ta_nil)) _ ⟨p, B, names, cs, ms, s, x, x2, rfl, W4, nd, q3, ok.1, by omega, fun z => nx (by
    rw [ex0]
    cases e9 : exB cs ms x s with
    | mk ra rb =>
      rw [e9] at z
      have z : ra = .x := z
      subst z
      rfl), fun e H5 xs5 re s5 q ex S5 he hre => ?_⟩))
  have S := ((StL.refl W).same ga).trans S5
  rw [ex] at ex0
  try dsimp only
  refine set_sl (σ' := [some (.ref p.self), some (.ref t), some (.ref kt), some (.ref e)]) rfl ?_
  cases re with
  | x => exact hre.elim
  | f z =>
    have hre' : xs5 = [.str "fault", .str z] := hre
    subst hre'
    refine if_seq (tt_test (te_ne (te_ixT (te_var rfl) te_c (SqT.of he) (atI_nat (j := 0) rfl)) te_c rfl)) (fun h => ?_) fun h => ?_
    · exact ret_te (te_var rfl) (k e H5 _ (.f z) s5 q ex0 S he hre)
    · rw [deq_str] at h
      exact absurd h (by decide +kernel)
  | k wd =>
    have hre' : xs5 = [.str wd, .non] := hre
    subst hre'
    refine if_seq (tt_test (te_ne (te_ixT (te_var rfl) te_c (SqT.of he) (atI_nat (j := 0) rfl)) te_c rfl)) (fun h => ?_) fun h => ?_
    · have h : wd ≠ "retry" := by
        rw [deq_str] at h
        simpa using h
      exact ret_te (te_var rfl) (k e H5 _ (.k wd) s5 q (by rw [ex0]; show (if wd = "retry" then _ else _) = _; rw [if_neg h]) S he hre)
    · have h : wd = "retry" := by
        rw [deq_str] at h
        simpa using h
      have ex1 : exS cs ms (.choose x y) s = exB cs ms y { s with rds := s5.rds } := by
        rw [ex0]
        show (if wd = "retry" then _ else _) = _
        rw [if_pos h]
      have f1 := S5.fr _ _ (fresh (none_of (Same.refl _) hl1)) (g4 _ _ e1c)
      have f2 := S5.fr _ _ (fresh hw0) (g4 _ _ e2c)
      have f3 := S5.fr _ _ (fresh ht0) (g4 _ _ e3)
      have f4 := S5.fr _ _ (fresh hk0) e4
      rw [← S.nx.self]
      have ob := S.run.ob
      have l6 : ∀ q : Pl, (kW q).length < sizeLine := fun q => by
        show 6 < sizeLine
        rw [sizeLine_eq]
        omega
      refine ⟨_, rfl, kt, _, rfl, SqT.of f4, rfl, _, _, rfl, ?_⟩
      refine ⟨_, rfl, q.self, _, rfl, DPut.k (k := (.inr "locals" : Key)) ob (l6 q), _, _, rfl, ?_⟩
      refine ⟨_, rfl, q.self, _, rfl, DPut.k (k := (.inr "writes" : Key)) upd_same (l6 _), _, _, rfl, ?_⟩
      refine ⟨_, rfl, q.self, _, rfl, DPut.k (k := (.inr "later" : Key)) upd_same (l6 _), rfl, ?_⟩
      have S6 := swapL (u1 := putK (kW q) (.inr "locals" : Key) (.ref l1)) (u2 := putK (putK (kW q) (.inr "locals" : Key) (.ref l1)) (.inr "writes" : Key) (.ref w1)) W S hl1 hw0 ht0 nlw f1 f2 f3
      exact ret_un (call_un ((ta_cons (te_var rfl) (ta_cons (te_ixT (te_var rfl) te_c (Same.sqT S6.run.sb h1) (atI_nat (j := 2) rfl)) ta_nil)) _ ⟨{ q with dl := l1, dw := w1, ll := t1 }, B, names, cs, ms, _, y, x3, rfl, S6.run, nd, q5, ok.2, by omega, fun z => nx (by rw [ex1]; exact z), fun e2 H7 xs7 re7 s7 q7 ex7 S7 he7 hr7 => k e2 H7 xs7 re7 s7 q7 (by rw [ex1]; exact ex7) (S6.trans S7) he7 hr7⟩))
end
end K13

namespace K13
open PySem L2 YF YG NdefX
open C8 (tCut)
section
variable {K : PySem.W.Frag} {H B : Hp} {p : Pl} {names : List Str} {cs : List Cl} {ms : List Int} {s : RS}
theorem WlH.one (W : WlH K H B p names cs ms s) {x : Addr} {o' : HO} (hx : x ∈ ownL p) {s' : RS} (O : OkS names cs ms s')
    (h1 : (upd H x o') p.self = some (.dK (kW p))) (h2 : (upd H x o') p.dl = some (.dK s'.loc)) (h3 : (upd H x o') p.dr = some (.dK s'.rds)) (h4 : (upd H x o') p.dw = some (.dK s'.wrs)) (h5 : (upd H x o') p.ll = some (.lst (s'.ltr.map V.int))) : StL K H B p names cs ms s' (upd H x o') p := by
  have sb : Same B (upd H x o') := fun b u q => by
    rw [upd_ne fun z => by rw [z, W.off x hx] at q; cases q]
    exact W.sb _ _ q
  exact ⟨⟨h1, h2, h3, h4, h5, W.n1, W.n2, W.n3, W.n4, W.n5, W.n6, sb, W.off, W.cel, W.mem, O⟩, .refl, fun y u hy q => by
    rw [upd_ne fun z => hy (by rw [z]; exact hx)]
    exact q, fun y h => by
    by_cases z : y = x
    · rw [z, upd_same]
      exact fun q => nomatch q
    · rw [upd_ne z]
      exact h⟩
theorem WlH.kinds (W : WlH K H B p names cs ms s) : p.ll ≠ p.self ∧ p.ll ≠ p.dl ∧ p.ll ≠ p.dw ∧ p.ll ≠ p.dr := by
  refine ⟨fun z => ?_, fun z => ?_, fun z => ?_, fun z => ?_⟩
  · have h := W.ltr
    rw [z, W.ob] at h
    cases h
  · have h := W.ltr
    rw [z, W.loc] at h
    cases h
  · have h := W.ltr
    rw [z, W.wrs] at h
    cases h
  · have h := W.ltr
    rw [z, W.rds] at h
    cases h
theorem WlH.putW (W : WlH K H B p names cs ms s) {k : Nat} {n : Int} (hk : k < ms.length) (hn : InR n) : StL K H B p names cs ms { s with wrs := putK s.wrs (.inl (k : Int) : Key) (.int n) } (upd H p.dw (.dK (putK s.wrs (.inl (k : Int) : Key) (.int n)))) p := by
  obtain ⟨a1, a2, a3, a4⟩ := W.kinds
  have O := W.ok
  exact W.one (by simp [ownL]) ⟨O.loc, O.rds, O.wrs.put hk hn, O.ltr, O.pos, O.len, O.big, O.mem, O.lc⟩ (by rw [upd_ne W.n6]; exact W.ob) (by rw [upd_ne W.n3]; exact W.loc) (by rw [upd_ne W.n2.symm]; exact W.rds) upd_same (by rw [upd_ne a3]; exact W.ltr)
theorem WlH.putL (W : WlH K H B p names cs ms s) {x : Str} {n : Int} (hx : x ∈ names) (hn : InR n) : StL K H B p names cs ms { s with loc := putK s.loc (.inr x : Key) (.int n) } (upd H p.dl (.dK (putK s.loc (.inr x : Key) (.int n)))) p := by
  obtain ⟨a1, a2, a3, a4⟩ := W.kinds
  have O := W.ok
  refine W.one (by simp [ownL]) ⟨fun y hy => ?_, O.rds, O.wrs, O.ltr, O.pos, O.len, O.big, O.mem, ?_⟩ (by rw [upd_ne W.n4]; exact W.ob) upd_same (by rw [upd_ne W.n1.symm]; exact W.rds) (by rw [upd_ne W.n3.symm]; exact W.wrs) (by rw [upd_ne a2]; exact W.ltr)
  · show ∃ m, valV (putK s.loc (.inr x : Key) (.int n)) (.inr y : Key) = some (.int m) ∧ InR m
    rw [valV_put]
    by_cases z : (.inr y : Key) = .inr x
    · rw [if_pos z]
      exact ⟨n, rfl, hn⟩
    · rw [if_neg z]
      exact O.loc y hy
  · show (putK s.loc (.inr x : Key) (.int n)).length ≤ 1000
    obtain ⟨m, em, _⟩ := O.loc x hx
    unfold putK
    rw [if_pos (List.any_eq_true.mpr ⟨_, valV_mem em, decide_eq_true rfl⟩), List.length_map]
    exact O.lc
theorem WlH.putT (W : WlH K H B p names cs ms s) {n : Int} (hn : InR n) : StL K H B p names cs ms { s with ltr := s.ltr ++ [n] } (upd H p.ll (.lst (s.ltr.map V.int ++ [.int n]))) p := by
  obtain ⟨a1, a2, a3, a4⟩ := W.kinds
  have O := W.ok
  refine W.one (by simp [ownL]) ⟨O.loc, O.rds, O.wrs, fun m hm => ?_, O.pos, O.len, O.big, O.mem, O.lc⟩ (by rw [upd_ne a1.symm]; exact W.ob) (by rw [upd_ne a2.symm]; exact W.loc) (by rw [upd_ne a4.symm]; exact W.rds) (by rw [upd_ne a3.symm]; exact W.wrs) (by rw [upd_same, List.map_append]; rfl)
  rcases List.mem_append.mp hm with h | h
  · exact O.ltr m h
  · rw [List.mem_singleton.mp h]
    exact hn
variable {H2 : Hp} {s2 : RS} {q : Pl} {Q : VK}
theorem asg2R {n a b : Nat} {σ : L2.St} {tw te ta tb : TE} {tl : TA} {D : Ends} {rest : TS} {E : XK} {e : Ex} {u : V} {x : Str} {zs : List Str} (hw : Te tw σ H (.ref p.self)) (hx : Te te σ H (.str x)) (hl : Ta tl σ H (zs.map V.str)) (hz : zs.length ≤ 1000) (hu : ∀ H2, Same H H2 → (x ∈ zs → Te ta σ H2 u) ∧ (x ∉ zs → Te tb σ H2 u)) (W : WlH K H B p names cs ms s) (nd : (cs.map (·.1)).Nodup) (r : Rp K B e.d [u]) (ok : e.ok) (okl : okEx (okLR names) e) (hd : dpE e < n)
    (k1 : ∀ i y s1 H1, ev (lkR cs ms) s e = (.ok i, s1) → StL K H B p names cs ms s1 H1 p → rest D ((σ.set a (some (.int i))).set b (some (.str y))) H1)
    (k2 : ∀ z s1 H1, ev (lkR cs ms) s e = (.er z, s1) → StL K H B p names cs ms s1 H1 p → rest D ((σ.set a (some .non)).set b (some (.str z))) H1) :
    tSeq (tAsg (tCall (spValL K n) [] E (tCons tw (tCons (tIf (tTest (tOp (rIn K false) te (tLst tl))) ta tb) tNil))) (gTup K 2 (gCons (gName a) (gCons (gName b) gNil)))) rest D σ H := by
  have key : ∀ H3, Same H H3 → tSeq (tAsg (tCall (spValL K n) [] E (tCons (tC (.ref p.self)) (tCons (tC u) tNil))) (gTup K 2 (gCons (gName a) (gCons (gName b) gNil)))) rest D σ H3 := fun H3 g =>
    asg2L te_c te_c (W.same g) nd r ok okl hd (fun i y s1 H1 ei S1 => k1 i y s1 H1 ei (((StL.refl W).same g).trans S1)) fun z s1 H1 ez S1 => k2 z s1 H1 ez (((StL.refl W).same g).trans S1)
  exact hw _ (tin_go hx hl hz fun q hq => ⟨_, rfl, ite3 (fun h => (hu _ (Same.upd hq)).1 (of_decide_eq_true h) _ (key _ (Same.upd hq))) fun h => (hu _ (Same.upd hq)).2 (of_decide_eq_false h) _ (key _ (Same.upd hq))⟩)
theorem finS {xs : List V} {re : Re} {s' : RS} {b : Sm} (ex : exS cs ms b s = (re, s')) (S : StL K H B p names cs ms s' H2 q) (hl : xs.length ≤ 1000) (rz : ReT re xs)
    (k : ∀ t H' xs re s' q, exS cs ms b s = (re, s') → StL K H B p names cs ms s' H' q → H' t = some (.tup xs) → ReT re xs → Q (.ref t) H') : xs.length ≤ sizeLine ∧ ∀ t, H2 t = none → Q (.ref t) (upd H2 t (.tup xs)) :=
  ⟨Nat.le_trans hl (by decide), fun t ht => k t _ xs re s' q ex (S.same (Same.upd ht)) upd_same rz⟩
theorem cut_no {σ : L2.St} {te : TE} {x y : Str} {tu rest : TS} {D : Ends} (ha : Te te σ H (.str x)) (h : x ≠ y) (k : rest D σ H) : tCut (tIfS (tTest (tOp rEq te (tC (.str y)))) tu tNext) rest D σ H :=
  ⟨fun σ' H' => σ' = σ ∧ H' = H, if_str ha (fun e => absurd e h) fun _ => ⟨rfl, rfl⟩, fun σ' H' ⟨e1, e2⟩ => by rw [e1, e2]; exact k⟩
theorem cut_yes {σ : L2.St} {te : TE} {x : Str} {tu rest : TS} {D : Ends} (Mid : L2.St → Hp → Prop) (ha : Te te σ H (.str x)) (h1 : tu { D with nx := Mid } σ H) (k : ∀ σ' H', Mid σ' H' → rest D σ' H') : tCut (tIfS (tTest (tOp rEq te (tC (.str x)))) tu tNext) rest D σ H :=
  ⟨Mid, if_str ha (fun _ => h1) fun e => absurd rfl e, k⟩
end
end K13

namespace K13
open PySem L2 YF YG NdefX
open C8 (tCut)
section
variable {P : Program} {w : World} {K : PySem.W.Frag} {mg : Str → Option Value} {base : Heap} {A : Adr}
theorem ok_law_run_one {n : Nat} (T : Txt K mg A) (ih : FnOk P w K mg base CX0 (3 * n + 16) A.a__law_runs A.d__law_runs ["world", "body"] (spRunsL K n)) : FnOk P w K mg base CX0 (3 * n + 18) A.a__law_run_one A.d__law_run_one ["world", "statement"] (spOneL K fun b => b.dp < n + 1) := by
  refine T.F__law_run_one.ok (k := 3 * n + 17) sc_law_run_one (fun vs H Q E ⟨_, _, _, _, _, _, _, _, e, _⟩ => by rw [e]; rfl) (fun cdv A' outer s0 H vs Q E hr h => ?_)
  obtain ⟨p, B, names, cs, ms, s, b, v, rfl, W, nd, r, ok, hdp, nx, k⟩ := h
  refine ⟨_, pss_cons (ps_set (i := 2) sc_law_run_one.nd rfl (Or.inl rfl) (pe_ix ix_tup (pv 1) (pe_int) (fun _ _ => rfl)))
  (pss_cons (ps_if (pt_cmpR op_in_seq (pv 2) (pe_lst (pa_cons (pe_str) (pa_cons (pe_str) pa_nil))) (by rfl))
  (pss_one (ps_ret (pe_tup (pa_cons (pv 2) (pa_cons (pe_non) pa_nil)))))
  (pss_nil))
  (pss_cons (ps_if (pt_cmpR op_eq (pv 2) (pe_str) (nomark _))
  (pss_one (ps_ret (pe_call (ok_law_chosen T ih) (hr.mono (by omega)) rfl T.g__law_chosen T.F__law_chosen.kp T.b__law_chosen .nil pass0 (pa_cons (pv 0) (pa_cons (pv 1) pa_nil)))))
  (pss_nil))
  (pss_cons (ps_asg (pe_call (ok_law_value T 14) (hr.mono (by omega)) rfl T.g__law_value T.F__law_value.kp T.b__law_value .nil pass0 (pa_cons (pv 0) (pa_cons (pe_ifExp (pt_cmpR op_in_seq (pv 2) (pe_lst (pa_cons (pe_str) (pa_cons (pe_str) pa_nil))) (by rfl)) (pe_ix ix_tup (pv 1) (pe_int) (fun _ _ => rfl)) (pe_ix ix_tup (pv 1) (pe_int) (fun _ _ => rfl))) pa_nil))) (pg_tup (by rfl) (pgs_cons (pg_name (i := 3) sc_law_run_one.nd rfl (Or.inl rfl)) (pgs_cons (pg_name (i := 4) sc_law_run_one.nd rfl (Or.inl rfl)) pgs_nil))))
  (pss_cons (ps_if (pt_cmpR op_isN (pv 3) (pe_non) (nomark _))
  (pss_one (ps_ret (pe_tup (pa_cons (pe_str) (pa_cons (pv 4) pa_nil)))))
  (pss_nil))
  (C8.pss_cut (ps_if (pt_cmpR op_eq (pv 2) (pe_str) (nomark _))
  (pss_one (ps_dput (hu_of hr) (pe_dget (hu_of hr) (pv 0) (pe_str) (fun _ _ => rfl)) (pe_ix ix_tup (pv 1) (pe_int) (fun _ _ => rfl)) (pv 3) rfl))
  (pss_nil))
  (C8.pss_cut (ps_if (pt_cmpR op_eq (pv 2) (pe_str) (nomark _))
  (pss_one (ps_expr (pe_bm PySem.F.plainAttrs_list PySem.F.slot_list_append PySem.F.type_list_append mt_append (pe_dget (hu_of hr) (pv 0) (pe_str) (fun _ _ => rfl)) (pa_cons (pv 3) pa_nil))))
  (pss_nil))
  (C8.pss_cut (ps_if (pt_cmpR op_eq (pv 2) (pe_str) (nomark _))
  (pss_cons (ps_asg (pe_call (ok_law_value T 14) (hr.mono (by omega)) rfl T.g__law_value T.F__law_value.kp T.b__law_value .nil pass0 (pa_cons (pv 0) (pa_cons (pe_ix ix_tup (pv 1) (pe_int) (fun _ _ => rfl)) pa_nil))) (pg_tup (by rfl) (pgs_cons (pg_name (i := 5) sc_law_run_one.nd rfl (Or.inl rfl)) (pgs_cons (pg_name (i := 4) sc_law_run_one.nd rfl (Or.inl rfl)) pgs_nil))))
  (pss_cons (ps_set (i := 6) sc_law_run_one.nd rfl (Or.inl rfl) (pe_call (ok_law_place T) (hr.mono (by omega)) rfl T.g__law_place T.F__law_place.kp T.b__law_place .nil pass0 (pa_cons (pe_dget (hu_of hr) (pv 0) (pe_str) (fun _ _ => rfl)) (pa_cons (pe_ix ix_tup (pv 1) (pe_int) (fun _ _ => rfl)) (pa_cons (pv 3) pa_nil)))))
  (pss_cons (ps_if (pt_cmpR op_isN (pv 5) (pe_non) (nomark _))
  (pss_one (ps_ret (pe_tup (pa_cons (pe_str) (pa_cons (pv 4) pa_nil)))))
  (pss_nil))
  (pss_cons (ps_if (pt_cmpR op_isN (pv 6) (pe_non) (nomark _))
  (pss_one (ps_ret (pe_tup (pa_cons (pe_str) (pa_cons (pe_str) pa_nil)))))
  (pss_nil))
  (pss_one (ps_dput (hu_of hr) (pe_dget (hu_of hr) (pv 0) (pe_str) (fun _ _ => rfl)) (pv 6) (pv 5) rfl))))))
  (pss_nil))
  (pss_cons (ps_if (pt_cmpR op_eq (pv 2) (pe_str) (nomark _))
  (pss_one (ps_ret (pe_call ih (hr.mono (by omega)) rfl T.g__law_runs T.F__law_runs.kp T.b__law_runs .nil pass0 (pa_cons (pv 0) (pa_cons (pe_ifExp (pt_cmpR op_ne (pv 3) (pe_int) (nomark _)) (pe_ix ix_tup (pv 1) (pe_int) (fun _ _ => rfl)) (pe_ix ix_tup (pv 1) (pe_int) (fun _ _ => rfl))) pa_nil)))))
  (pss_nil))
  (C8.pss_cut (ps_if (pt_cmpR op_eq (pv 2) (pe_str) (nomark _))
  (pss_cons (ps_if (PW.pt (pw_or (pt_cmpR op_lt (pv 3) (pe_int) (nomark _)) (pw_or1 (pt_cmpR op_gt (pv 3) (pe_int) (nomark _)))))
  (pss_one (ps_ret (pe_tup (pa_cons (pe_str) (pa_cons (pe_str) pa_nil)))))
  (pss_nil))
  (pss_one (ps_for PassesOwn.never rfl (pi_range1 (by rfl) T.n_range (pa_cons (pv 3) pa_nil)) (pg_name (i := 7) sc_law_run_one.nd rfl (Or.inl rfl))
  (pss_cons (ps_set (i := 8) sc_law_run_one.nd rfl (Or.inl rfl) (pe_call ih (hr.mono (by omega)) rfl T.g__law_runs T.F__law_runs.kp T.b__law_runs .nil pass0 (pa_cons (pv 0) (pa_cons (pe_ix ix_tup (pv 1) (pe_int) (fun _ _ => rfl)) pa_nil))))
  (pss_one (ps_if (pt_cmpR (op_neD hr.units) (pv 8) (pe_tup (pa_cons (pe_str) (pa_cons (pe_non) pa_nil))) (nomark _))
  (pss_one (ps_ret (pv 8)))
  (pss_nil)))))))
  (pss_nil))
  (pss_one (ps_ret (pe_tup (pa_cons (pe_str) (pa_cons (pe_non) pa_nil)))))))))))))), ?_⟩
  obtain ⟨t, rr, rfl, h1⟩ := sm_at r
  refine asg_te (te_ixT (te_var rfl) te_c (Same.sqT W.sb h1) (atI_nat (j := 0) rfl)) ?_
  refine set_sl (σ' := [some (.ref p.self), some (.ref t), some (.str (wordS b)), none, none, none, none, none, none]) rfl ?_
  refine in_seq (zs := ["retry", "undo"]) (te_var rfl) (ta_cons te_c (ta_cons te_c ta_nil)) (by decide) (fun q0 hq0 hin => ?_) fun q0 hq0 hno => ?_
  · have S1 := (StL.refl W).same (Same.upd (o := .lst ((["retry", "undo"] : List Str).map V.str)) hq0)
    generalize upd H q0 (HO.lst ((["retry", "undo"] : List Str).map V.str)) = H1 at S1 ⊢
    cases b with
    | word z => exact ret_tup2 (te_var rfl) te_c (finS (re := .k z) rfl S1 (by show 2 ≤ 1000; decide) rfl k)
    | set x e => exact absurd hin (show ¬ (("set" : Str) ∈ (["retry", "undo"] : List Str)) by decide)
    | put nm i e => exact absurd hin (show ¬ (("put" : Str) ∈ (["retry", "undo"] : List Str)) by decide)
    | later e => exact absurd hin (show ¬ (("later" : Str) ∈ (["retry", "undo"] : List Str)) by decide)
    | cond c x y => exact absurd hin (show ¬ (("if" : Str) ∈ (["retry", "undo"] : List Str)) by decide)
    | rep c x => exact absurd hin (show ¬ (("repeat" : Str) ∈ (["retry", "undo"] : List Str)) by decide)
    | choose x y => exact absurd hin (show ¬ (("choose" : Str) ∈ (["retry", "undo"] : List Str)) by decide)
  · have S1 := (StL.refl W).same (Same.upd (o := .lst ((["retry", "undo"] : List Str).map V.str)) hq0)
    generalize upd H q0 (HO.lst ((["retry", "undo"] : List Str).map V.str)) = H1 at S1 ⊢
    have W1 := S1.run
    have dt : ∀ {e : Ex}, stp e ≤ 13 → dpE e < 14 := fun {e} h => by
      have := dp_stp e
      omega
    cases b with
    | word z => exact absurd ok hno
    | choose x y =>
      refine if_str (te_var rfl) (fun _ => ?_) fun h => absurd rfl h
      exact ret_un (call_un ((ta_cons (te_var rfl) (ta_cons (te_var rfl) ta_nil)) _ ⟨p, B, names, cs, ms, s, .choose x y, .ref t, rfl, W1, nd, r, ok, ⟨⟨x, y, rfl⟩, hdp⟩, nx, fun t H' xs re s' q ex S ht hr => k t H' xs re s' q ex (S1.trans S) ht hr⟩))
    | set x e =>
      obtain ⟨t', xs, e0, g1, g2, g3⟩ := rp_tup r
      obtain ⟨x1, r1, rfl, q1, q2⟩ := rp_cons g3
      obtain ⟨x2, r2, rfl, q3, q4⟩ := rp_cons q2
      obtain ⟨x3, r3, rfl, q5, q6⟩ := rp_cons q4
      cases e0
      cases q1
      cases q3
      cases q6
      have ex0 : exS cs ms (.set x e) s = valE (ev (lkR cs ms) s e) fun n s => (.k "done", { s with loc := putK s.loc (.inr x : Key) (.int n) }) := rfl
      refine if_str (te_var rfl) (fun z => absurd z (show ¬ (("set" : Str) = "choose") by decide +kernel)) fun _ => ?_
      refine asg2R (e := e) (u := x3) (x := "set") (zs := ["set", "put"]) (te_var rfl) (te_var rfl) (ta_cons te_c (ta_cons te_c ta_nil)) (by decide) (fun H2 g => ⟨fun _ => te_ixT (te_var rfl) te_c (Same.sqT (W1.same g).sb g1) (atI_nat (j := 2) rfl), fun h => absurd (by decide) h⟩) W1 nd q5 ok.2.1 ok.2.2.1 (dt ok.2.2.2) (fun m y s2 H2 em S2 => ?_) fun z s2 H2 ez S2 => ?_
      · rw [em] at ex0
        have ex1 : exS cs ms (.set x e) s = (.k "done", { s2 with loc := putK s2.loc (.inr x : Key) (.int m) }) := ex0
        have hm : InR m := ev_rngR W1.ok (e := e) ok.2.2.1 (by rw [em])
        have W2 := S2.run
        refine set_sl (σ' := [some (.ref p.self), some (.ref t), some (.str "set"), some (.int m), some (.str y), none, none, none, none]) rfl ?_
        refine if_seq (tt_test (te_isN (te_var (v := .int m) rfl))) (fun h => nomatch (of_decide_eq_true h)) fun _ => ?_
        refine cut_yes (fun σ' H' => ∃ s', σ' = [some (.ref p.self), some (.ref t), some (.str "set"), some (.int m), some (.str y), none, none, none, none] ∧ exS cs ms (.set x e) s = (.k "done", s') ∧ StL K H B p names cs ms s' H' p) (te_var rfl) ?_ ?_
        · refine (te_var rfl : Te _ _ _ (.int m)) _ ?_
          refine (te_dgetS (te_var rfl) te_c W2.ob rfl : Te _ _ _ (.ref p.dl)) _ ?_
          refine (te_ixT (te_var rfl) te_c (Same.sqT W2.sb g1) (atI_nat (j := 1) rfl) : Te _ _ _ (.str x)) _ ?_
          exact ⟨p.dl, _, rfl, DPut.k (k := (.inr x : Key)) W2.loc (by have := W2.ok.lc; rw [sizeLine_eq]; omega), _, rfl, ex1, (S1.trans S2).trans (W2.putL ok.1 hm)⟩
        · rintro σ' H3 ⟨s3, rfl, ex3, S3⟩
          refine cut_no (te_var rfl) (show ¬ (("set" : Str) = "later") by decide +kernel) ?_
          refine cut_no (te_var rfl) (show ¬ (("set" : Str) = "put") by decide +kernel) ?_
          refine if_str (te_var rfl) (fun z => absurd z (show ¬ (("set" : Str) = "if") by decide +kernel)) fun _ => ?_
          refine cut_no (te_var rfl) (show ¬ (("set" : Str) = "repeat") by decide +kernel) ?_
          exact ret_tup2 te_c te_c (finS (re := .k "done") ex3 S3 (by show 2 ≤ 1000; decide) rfl k)
      · refine set_sl (σ' := [some (.ref p.self), some (.ref t), some (.str "set"), some .non, some (.str z), none, none, none, none]) rfl ?_
        refine if_seq (tt_test (te_isN (te_var (v := .non) rfl))) (fun _ => ?_) fun h => nomatch h
        exact ret_tup2 te_c (te_var rfl) (finS (re := .f z) (by rw [ex0, ez]; rfl) (S1.trans S2) (by show 2 ≤ 1000; decide) rfl k)
    | later e =>
      obtain ⟨t', xs, e0, g1, g2, g3⟩ := rp_tup r
      obtain ⟨x1, r1, rfl, q1, q2⟩ := rp_cons g3
      obtain ⟨x2, r2, rfl, q3, q4⟩ := rp_cons q2
      cases e0
      cases q1
      cases q4
      have ex0 : exS cs ms (.later e) s = valE (ev (lkR cs ms) s e) fun n s => if s.ltr.length < 100000 then (.k "done", { s with ltr := s.ltr ++ [n] }) else (.x, s) := rfl
      refine if_str (te_var rfl) (fun z => absurd z (show ¬ (("later" : Str) = "choose") by decide +kernel)) fun _ => ?_
      refine asg2R (e := e) (u := x2) (x := "later") (zs := ["set", "put"]) (te_var rfl) (te_var rfl) (ta_cons te_c (ta_cons te_c ta_nil)) (by decide) (fun H2 g => ⟨fun h => absurd h (by decide), fun _ => te_ixT (te_var rfl) te_c (Same.sqT (W1.same g).sb g1) (atI_nat (j := 1) rfl)⟩) W1 nd q3 ok.1 ok.2.1 (dt ok.2.2) (fun m y s2 H2 em S2 => ?_) fun z s2 H2 ez S2 => ?_
      · rw [em] at ex0
        have ex1 : exS cs ms (.later e) s = if s2.ltr.length < 100000 then (.k "done", { s2 with ltr := s2.ltr ++ [m] }) else (.x, s2) := ex0
        have hm : InR m := ev_rngR W1.ok (e := e) ok.2.1 (by rw [em])
        have W2 := S2.run
        have q : s2.ltr.length < 100000 := by
          by_cases q : s2.ltr.length < 100000
          · exact q
          · rw [if_neg q] at ex1
            exact absurd (by rw [ex1]) nx
        rw [if_pos q] at ex1
        refine set_sl (σ' := [some (.ref p.self), some (.ref t), some (.str "later"), some (.int m), some (.str y), none, none, none, none]) rfl ?_
        refine if_seq (tt_test (te_isN (te_var (v := .int m) rfl))) (fun h => nomatch (of_decide_eq_true h)) fun _ => ?_
        refine cut_no (te_var rfl) (show ¬ (("later" : Str) = "set") by decide +kernel) ?_
        refine cut_yes (fun σ' H' => ∃ s', σ' = [some (.ref p.self), some (.ref t), some (.str "later"), some (.int m), some (.str y), none, none, none, none] ∧ exS cs ms (.later e) s = (.k "done", s') ∧ StL K H B p names cs ms s' H' p) (te_var rfl) ?_ ?_
        · refine go_app (te_dgetS (te_var rfl) te_c W2.ob rfl) W2.ltr ?_
          exact (ta_cons (te_var rfl) ta_nil) _ ⟨p.ll, _, .int m, rfl, rfl, W2.ltr, by rw [List.length_map, sizeLine_eq]; omega, _, rfl, ex1, (S1.trans S2).trans (W2.putT hm)⟩
        · rintro σ' H3 ⟨s3, rfl, ex3, S3⟩
          refine cut_no (te_var rfl) (show ¬ (("later" : Str) = "put") by decide +kernel) ?_
          refine if_str (te_var rfl) (fun z => absurd z (show ¬ (("later" : Str) = "if") by decide +kernel)) fun _ => ?_
          refine cut_no (te_var rfl) (show ¬ (("later" : Str) = "repeat") by decide +kernel) ?_
          exact ret_tup2 te_c te_c (finS (re := .k "done") ex3 S3 (by show 2 ≤ 1000; decide) rfl k)
      · refine set_sl (σ' := [some (.ref p.self), some (.ref t), some (.str "later"), some .non, some (.str z), none, none, none, none]) rfl ?_
        refine if_seq (tt_test (te_isN (te_var (v := .non) rfl))) (fun _ => ?_) fun h => nomatch h
        exact ret_tup2 te_c (te_var rfl) (finS (re := .f z) (by rw [ex0, ez]; rfl) (S1.trans S2) (by show 2 ≤ 1000; decide) rfl k)
    | put nm i e =>
      obtain ⟨t', xs, e0, g1, g2, g3⟩ := rp_tup r
      obtain ⟨x1, r1, rfl, q1, q2⟩ := rp_cons g3
      obtain ⟨x2, r2, rfl, q3, q4⟩ := rp_cons q2
      obtain ⟨x3, r3, rfl, q5, q6⟩ := rp_cons q4
      obtain ⟨x4, r4, rfl, q7, q8⟩ := rp_cons q6
      cases e0
      cases q1
      cases q3
      cases q8
      have ex0 : exS cs ms (.put nm i e) s = valE (ev (lkR cs ms) s i) fun j s => valE (ev (lkR cs ms) s e) fun n s => match place cs nm j 0 with
        | some k => (.k "done", { s with wrs := putK s.wrs (.inl k : Key) (.int n) })
        | none => (.f "index", s) := rfl
      refine if_str (te_var rfl) (fun z => absurd z (show ¬ (("put" : Str) = "choose") by decide +kernel)) fun _ => ?_
      refine asg2R (e := i) (u := x3) (x := "put") (zs := ["set", "put"]) (te_var rfl) (te_var rfl) (ta_cons te_c (ta_cons te_c ta_nil)) (by decide) (fun H2 g => ⟨fun _ => te_ixT (te_var rfl) te_c (Same.sqT (W1.same g).sb g1) (atI_nat (j := 2) rfl), fun h => absurd (by decide) h⟩) W1 nd q5 ok.1.1 ok.1.2.1 (dt ok.1.2.2) (fun j y s2 H2 ej S2 => ?_) fun z s2 H2 ez S2 => ?_
      · rw [ej] at ex0
        have ex1 : exS cs ms (.put nm i e) s = valE (ev (lkR cs ms) s2 e) fun n s => match place cs nm j 0 with
          | some k => (.k "done", { s with wrs := putK s.wrs (.inl k : Key) (.int n) })
          | none => (.f "index", s) := ex0
        have W2 := S2.run
        refine set_sl (σ' := [some (.ref p.self), some (.ref t), some (.str "put"), some (.int j), some (.str y), none, none, none, none]) rfl ?_
        refine if_seq (tt_test (te_isN (te_var (v := .int j) rfl))) (fun h => nomatch (of_decide_eq_true h)) fun _ => ?_
        refine cut_no (te_var rfl) (show ¬ (("put" : Str) = "set") by decide +kernel) ?_
        refine cut_no (te_var rfl) (show ¬ (("put" : Str) = "later") by decide +kernel) ?_
        refine cut_yes (fun σ' H' => ∃ s' v4 v5 v6, σ' = [some (.ref p.self), some (.ref t), some (.str "put"), some (.int j), v4, v5, v6, none, none] ∧ exS cs ms (.put nm i e) s = (.k "done", s') ∧ StL K H B p names cs ms s' H' p) (te_var rfl) ?_ ?_
        · refine asg2L (e := e) (u := x4) (te_var rfl) (te_ixT (te_var rfl) te_c (Same.sqT W2.sb g1) (atI_nat (j := 3) rfl)) W2 nd q7 ok.2.1 ok.2.2.1 (dt ok.2.2.2) (fun m y2 s3 H3 em S3 => ?_) fun z s3 H3 ez S3 => ?_
          · have S4 := (S1.trans S2).trans S3
            have W3 := S3.run
            rw [em] at ex1
            have ex2 : exS cs ms (.put nm i e) s = match place cs nm j 0 with
              | some k => (.k "done", { s3 with wrs := putK s3.wrs (.inl k : Key) (.int m) })
              | none => (.f "index", s3) := ex1
            have hm : InR m := ev_rngR W2.ok (e := e) ok.2.2.1 (by rw [em])
            refine set_sl (σ' := [some (.ref p.self), some (.ref t), some (.str "put"), some (.int j), some (.str y2), some (.int m), none, none, none]) rfl ?_
            refine asg_call (vs := [.ref p.pc, .str nm, .int j]) (ta_cons (te_dgetS (te_var rfl) te_c W3.ob rfl) (ta_cons (te_ixT (te_var rfl) te_c (Same.sqT W3.sb g1) (atI_nat (j := 1) rfl)) (ta_cons (te_var rfl) ta_nil))) ⟨p.pc, cs, nm, j, rfl, W3.cel.mono W3.sb, nd, ?_⟩
            refine set_sl (σ' := [some (.ref p.self), some (.ref t), some (.str "put"), some (.int j), some (.str y2), some (.int m), some (optV (place cs nm j 0)), none, none]) rfl ?_
            refine if_seq (tt_test (te_isN (te_var (v := .int m) rfl))) (fun h => nomatch (of_decide_eq_true h)) fun _ => ?_
            cases q : place cs nm j 0 with
            | none =>
              rw [q] at ex2
              refine if_seq (tt_test (te_isN (te_var (v := .non) rfl))) (fun _ => ?_) fun h => nomatch h
              exact ret_tup2 te_c te_c (finS (re := .f "index") ex2 S4 (by show 2 ≤ 1000; decide) rfl k)
            | some kk =>
              rw [q] at ex2
              have hlt := place_lt W3.ok.pos q
              have hl := W3.ok.len
              obtain ⟨jj, rfl⟩ : ∃ jj : Nat, kk = jj := ⟨kk.toNat, by omega⟩
              have hj : jj < ms.length := by omega
              refine if_seq (tt_test (te_isN (te_var (v := .int (jj : Int)) rfl))) (fun h => nomatch (of_decide_eq_true h)) fun _ => ?_
              refine (te_var rfl : Te _ _ _ (.int m)) _ ?_
              refine (te_dgetS (te_var rfl) te_c W3.ob rfl : Te _ _ _ (.ref p.dw)) _ ?_
              refine (te_var rfl : Te _ _ _ (.int (jj : Int))) _ ?_
              exact ⟨p.dw, _, rfl, DPut.k (k := (.inl (jj : Int) : Key)) W3.wrs (by have := W3.ok.wrs.len; have := W3.ok.big; rw [sizeLine_eq]; omega), _, _, _, _, rfl, ex2, S4.trans (W3.putW hj hm)⟩
          · refine set_sl (σ' := [some (.ref p.self), some (.ref t), some (.str "put"), some (.int j), some (.str z), some .non, none, none, none]) rfl ?_
            have W3 := S3.run
            refine asg_call (vs := [.ref p.pc, .str nm, .int j]) (ta_cons (te_dgetS (te_var rfl) te_c W3.ob rfl) (ta_cons (te_ixT (te_var rfl) te_c (Same.sqT W3.sb g1) (atI_nat (j := 1) rfl)) (ta_cons (te_var rfl) ta_nil))) ⟨p.pc, cs, nm, j, rfl, W3.cel.mono W3.sb, nd, ?_⟩
            refine set_sl (σ' := [some (.ref p.self), some (.ref t), some (.str "put"), some (.int j), some (.str z), some .non, some (optV (place cs nm j 0)), none, none]) rfl ?_
            refine if_seq (tt_test (te_isN (te_var (v := .non) rfl))) (fun _ => ?_) fun h => nomatch h
            exact ret_tup2 te_c (te_var rfl) (finS (re := .f z) (by rw [ex1, ez]; rfl) ((S1.trans S2).trans S3) (by show 2 ≤ 1000; decide) rfl k)
        · rintro σ' H3 ⟨s3, v4, v5, v6, rfl, ex3, S3⟩
          refine if_str (te_var rfl) (fun z => absurd z (show ¬ (("put" : Str) = "if") by decide +kernel)) fun _ => ?_
          refine cut_no (te_var rfl) (show ¬ (("put" : Str) = "repeat") by decide +kernel) ?_
          exact ret_tup2 te_c te_c (finS (re := .k "done") ex3 S3 (by show 2 ≤ 1000; decide) rfl k)
      · refine set_sl (σ' := [some (.ref p.self), some (.ref t), some (.str "put"), some .non, some (.str z), none, none, none, none]) rfl ?_
        refine if_seq (tt_test (te_isN (te_var (v := .non) rfl))) (fun _ => ?_) fun h => nomatch h
        exact ret_tup2 te_c (te_var rfl) (finS (re := .f z) (by rw [ex0, ez]; rfl) (S1.trans S2) (by show 2 ≤ 1000; decide) rfl k)
    | cond c x y =>
      obtain ⟨t', xs, e0, g1, g2, g3⟩ := rp_tup r
      obtain ⟨x1, r1, rfl, q1, q2⟩ := rp_cons g3
      obtain ⟨x2, r2, rfl, q3, q4⟩ := rp_cons q2
      obtain ⟨x3, r3, rfl, q5, q6⟩ := rp_cons q4
      obtain ⟨x4, r4, rfl, q7, q8⟩ := rp_cons q6
      cases e0
      cases q1
      cases q8
      have hdp : max x.dp y.dp + 1 < n + 1 := hdp
      have ex0 : exS cs ms (.cond c x y) s = valE (ev (lkR cs ms) s c) fun n s => if n ≠ 0 then exB cs ms x s else exB cs ms y s := rfl
      refine if_str (te_var rfl) (fun z => absurd z (show ¬ (("if" : Str) = "choose") by decide +kernel)) fun _ => ?_
      refine asg2R (e := c) (u := x2) (x := "if") (zs := ["set", "put"]) (te_var rfl) (te_var rfl) (ta_cons te_c (ta_cons te_c ta_nil)) (by decide) (fun H2 g => ⟨fun h => absurd h (by decide), fun _ => te_ixT (te_var rfl) te_c (Same.sqT (W1.same g).sb g1) (atI_nat (j := 1) rfl)⟩) W1 nd q3 ok.1.1 ok.1.2.1 (dt ok.1.2.2) (fun m y2 s2 H2 em S2 => ?_) fun z s2 H2 ez S2 => ?_
      · rw [em] at ex0
        have ex1 : exS cs ms (.cond c x y) s = if m ≠ 0 then exB cs ms x s2 else exB cs ms y s2 := ex0
        have W2 := S2.run
        have S3 := S1.trans S2
        refine set_sl (σ' := [some (.ref p.self), some (.ref t), some (.str "if"), some (.int m), some (.str y2), none, none, none, none]) rfl ?_
        refine if_seq (tt_test (te_isN (te_var (v := .int m) rfl))) (fun h => nomatch (of_decide_eq_true h)) fun _ => ?_
        refine cut_no (te_var rfl) (show ¬ (("if" : Str) = "set") by decide +kernel) ?_
        refine cut_no (te_var rfl) (show ¬ (("if" : Str) = "later") by decide +kernel) ?_
        refine cut_no (te_var rfl) (show ¬ (("if" : Str) = "put") by decide +kernel) ?_
        refine if_str (te_var rfl) (fun _ => ?_) fun z => absurd rfl z
        refine ret_un (call_un ?_)
        by_cases hm : m = 0
        · rw [if_neg (fun z => z hm)] at ex1
          exact (ta_cons (te_var rfl) (ta_cons (te_ifF (tt_test (by
            have t := te_ne0 (σ := [some (V.ref p.self), some (V.ref t), some (V.str "if"), some (V.int m), some (V.str y2), none, none, none, none]) (H := H2) (c := 3) (x := m) (y := 0) rfl
            rw [decide_eq_true hm] at t
            exact t)) (te_ixT (te_var rfl) te_c (Same.sqT W2.sb g1) (atI_nat (j := 3) rfl))) ta_nil)) _ ⟨p, B, names, cs, ms, s2, y, x4, rfl, W2, nd, q7, ok.2.2, by omega, fun z => nx (by rw [ex1]; exact z), fun t H' xs re s' q ex S ht hr => k t H' xs re s' q (ex1.trans ex) (S3.trans S) ht hr⟩
        · rw [if_pos hm] at ex1
          exact (ta_cons (te_var rfl) (ta_cons (te_ifT (tt_test (by
            have t := te_ne0 (σ := [some (V.ref p.self), some (V.ref t), some (V.str "if"), some (V.int m), some (V.str y2), none, none, none, none]) (H := H2) (c := 3) (x := m) (y := 0) rfl
            rw [decide_eq_false hm] at t
            exact t)) (te_ixT (te_var rfl) te_c (Same.sqT W2.sb g1) (atI_nat (j := 2) rfl))) ta_nil)) _ ⟨p, B, names, cs, ms, s2, x, x3, rfl, W2, nd, q5, ok.2.1, by omega, fun z => nx (by rw [ex1]; exact z), fun t H' xs re s' q ex S ht hr => k t H' xs re s' q (ex1.trans ex) (S3.trans S) ht hr⟩
      · refine set_sl (σ' := [some (.ref p.self), some (.ref t), some (.str "if"), some .non, some (.str z), none, none, none, none]) rfl ?_
        refine if_seq (tt_test (te_isN (te_var (v := .non) rfl))) (fun _ => ?_) fun h => nomatch h
        exact ret_tup2 te_c (te_var rfl) (finS (re := .f z) (by rw [ex0, ez]; rfl) (S1.trans S2) (by show 2 ≤ 1000; decide) rfl k)
    | rep c bd =>
      obtain ⟨t', xs, e0, g1, g2, g3⟩ := rp_tup r
      obtain ⟨x1, r1, rfl, q1, q2⟩ := rp_cons g3
      obtain ⟨x2, r2, rfl, q3, q4⟩ := rp_cons q2
      obtain ⟨x3, r3, rfl, q5, q6⟩ := rp_cons q4
      cases e0
      cases q1
      cases q6
      have hdp : bd.dp + 1 < n + 1 := hdp
      have ex0 : exS cs ms (.rep c bd) s = valE (ev (lkR cs ms) s c) fun n s => if n < 0 ∨ 20 < n then (.f "count", s) else loopB n.toNat (exB cs ms bd) s := rfl
      refine if_str (te_var rfl) (fun z => absurd z (show ¬ (("repeat" : Str) = "choose") by decide +kernel)) fun _ => ?_
      refine asg2R (e := c) (u := x2) (x := "repeat") (zs := ["set", "put"]) (te_var rfl) (te_var rfl) (ta_cons te_c (ta_cons te_c ta_nil)) (by decide) (fun H2 g => ⟨fun h => absurd h (by decide), fun _ => te_ixT (te_var rfl) te_c (Same.sqT (W1.same g).sb g1) (atI_nat (j := 1) rfl)⟩) W1 nd q3 ok.1.1 ok.1.2.1 (dt ok.1.2.2) (fun m y2 s2 H2 em S2 => ?_) fun z s2 H2 ez S2 => ?_
      · rw [em] at ex0
        have ex1 : exS cs ms (.rep c bd) s = if m < 0 ∨ 20 < m then (.f "count", s2) else loopB m.toNat (exB cs ms bd) s2 := ex0
        have S3 := S1.trans S2
        refine set_sl (σ' := [some (.ref p.self), some (.ref t), some (.str "repeat"), some (.int m), some (.str y2), none, none, none, none]) rfl ?_
        refine if_seq (tt_test (te_isN (te_var (v := .int m) rfl))) (fun h => nomatch (of_decide_eq_true h)) fun _ => ?_
        refine cut_no (te_var rfl) (show ¬ (("repeat" : Str) = "set") by decide +kernel) ?_
        refine cut_no (te_var rfl) (show ¬ (("repeat" : Str) = "later") by decide +kernel) ?_
        refine cut_no (te_var rfl) (show ¬ (("repeat" : Str) = "put") by decide +kernel) ?_
        refine if_str (te_var rfl) (fun z => absurd z (show ¬ (("repeat" : Str) = "if") by decide +kernel)) fun _ => ?_
        refine cut_yes (fun σ' H' => ∃ s' q, exS cs ms (.rep c bd) s = (.k "done", s') ∧ StL K H B p names cs ms s' H' q) (te_var rfl) ?_ ?_
        · refine if_seq (tt_or (tt_test (te_i0 (te_var rfl) te_c)) fun _ => tt_test (te_i0 (te_var rfl) te_c)) (fun h => ?_) fun h => ?_
          · have h : m < 0 ∨ 20 < m := by simpa using h
            rw [if_pos h] at ex1
            exact ret_tup2 te_c te_c (finS (re := .f "count") ex1 S3 (by show 2 ≤ 1000; decide) rfl k)
          · have h : ¬ (m < 0 ∨ 20 < m) := by simpa using h
            rw [if_neg h] at ex1
            refine ⟨_, rfl, m, rfl, by omega, by omega, for_range (lo := 0) (n := m.toNat) (fun i σ H' => ∃ (v7 v8 : Option V) (s' : RS) (q : Pl), σ = [some (.ref q.self), some (.ref t), some (.str "repeat"), some (.int m), some (.str y2), none, none, v7, v8] ∧ StL K H B p names cs ms s' H' q ∧ exS cs ms (.rep c bd) s = loopB (m.toNat - i) (exB cs ms bd) s') ⟨_, _, s2, p, rfl, S3, ex1⟩ ?_ ?_⟩
            · rintro i σ H4 hi ⟨v7, v8, s', q, rfl, S4, e2⟩
              dsimp only [gName]
              refine set_sl (σ' := [some (.ref q.self), some (.ref t), some (.str "repeat"), some (.int m), some (.str y2), none, none, some (.int (0 + (i : Int))), v8]) rfl ?_
              have ei : m.toNat - i = (m.toNat - (i + 1)) + 1 := by omega
              rw [ei] at e2
              have e2 : exS cs ms (.rep c bd) s = andB (exB cs ms bd s') (loopB (m.toNat - (i + 1)) (exB cs ms bd)) := e2
              refine asg_un (call_un ((ta_cons (te_var rfl) (ta_cons (te_ixT (te_var rfl) te_c (Same.sqT S4.run.sb g1) (atI_nat (j := 2) rfl)) ta_nil)) _ ⟨q, B, names, cs, ms, s', bd, x3, rfl, S4.run, nd, q5, ok.2, by omega, fun z => nx (by rw [e2]; exact andB_x z), fun t5 H5 xs5 re5 s5 q5' e5 S5 ht5 hr5 => ?_⟩))
              have so := so_xs (re := re5) (by have := exB_so (cs := cs) (ms := ms) bd s' ok.2; rw [e5] at this; exact this) hr5
              rw [e5] at e2
              try dsimp only
              refine set_sl (σ' := [some (.ref q.self), some (.ref t), some (.str "repeat"), some (.int m), some (.str y2), none, none, some (.int (0 + (i : Int))), some (.ref t5)]) rfl ?_
              refine iff_un (test_un (op_un (Te.go (te_var rfl) (tup_un ((ta_cons te_c (ta_cons te_c ta_nil)) _ ⟨show 2 ≤ sizeLine by decide, fun u hu => ?_⟩)))))
              have ht' := Same.upd (o := .tup [.str "done", .non]) hu _ _ ht5
              have S6 := (S4.trans S5).same (Same.upd (o := .tup [.str "done", .non]) hu)
              refine ne_done ht' hr5 so upd_same (fun e => ⟨false, rfl, no_go ?_⟩) fun e => ⟨true, rfl, yes_go2 ?_⟩
              · rw [e, and_done] at e2
                exact ⟨_, _, s5, q5', by rw [S5.nx.self], S6, e2⟩
              · rw [and_end e] at e2
                exact ret_te (te_var rfl) (k t5 _ xs5 re5 s5 q5' e2 S6 ht' hr5)
            · rintro σ H4 ⟨v7, v8, s', q, rfl, S4, e2⟩
              dsimp only
              exact ⟨s', q, by rw [e2, Nat.sub_self]; rfl, S4⟩
        · rintro σ' H4 ⟨s', q, ex3, S4⟩
          exact ret_tup2 te_c te_c (finS (re := .k "done") ex3 S4 (by show 2 ≤ 1000; decide) rfl k)
      · refine set_sl (σ' := [some (.ref p.self), some (.ref t), some (.str "repeat"), some .non, some (.str z), none, none, none, none]) rfl ?_
        refine if_seq (tt_test (te_isN (te_var (v := .non) rfl))) (fun _ => ?_) fun h => nomatch h
        exact ret_tup2 te_c (te_var rfl) (finS (re := .f z) (by rw [ex0, ez]; rfl) (S1.trans S2) (by show 2 ≤ 1000; decide) rfl k)
/-- the law's runs, for every nesting -/
theorem ok_law_runs (T : Txt K mg A) : ∀ n : Nat, FnOk P w K mg base CX0 (3 * n + 16) A.a__law_runs A.d__law_runs ["world", "body"] (spRunsL K n) := by
  intro n
  induction n with
  | zero => exact ⟨fun vs H Q E ⟨_, _, _, _, _, _, _, _, e, _⟩ => by rw [e]; rfl, fun A' outer s H args us vs Q E hr e0 hb r ⟨_, _, _, _, _, _, _, _, _, _, _, _, _, h, _⟩ => absurd h (Nat.not_lt_zero _)⟩
  | succ n ih => exact runs_of_one (L := 3 * n + 18) T (ok_law_run_one T ih)
end
end K13

namespace K13
open PySem L2 YF YG NdefX
def kv2 (n m : Int) : Kv := [((.inr "x" : Key), .int n), ((.inr "y" : Key), .int m)]
theorem okS0 {n m : Int} {ms : List Int} (hn : InR n) (hm : InR m) (hl : ms.length = 6) (hq : ∀ q ∈ ms, InR q) : OkS nm2 cells0 ms (rs0 (kv2 n m)) where
  loc := fun x hx => by
    rcases List.mem_cons.mp hx with rfl | hx
    · exact ⟨n, rfl, hn⟩
    · rw [List.mem_singleton.mp hx]
      exact ⟨m, rfl, hm⟩
  rds := ⟨[], rfl, by simp, fun p h => nomatch h⟩
  wrs := ⟨[], rfl, by simp, fun p h => nomatch h⟩
  ltr := fun q h => nomatch h
  pos := by decide
  len := by rw [hl]; rfl
  big := by omega
  mem := hq
  lc := by show 2 ≤ 1000; decide
theorem tabs_stay {T : List NTab} {H H' : Hp} {p : Addr} {xs : List V} (t : TabsN T H) (s : Stay p H H') (hp : H p = some (.lst xs)) : TabsN T H' := fun q hq => by
  obtain ⟨ps, h1, h2, h3⟩ := t q hq
  refine ⟨ps, s.all _ _ (fun z => ?_) h1, h2, fun pos cv hc => ?_⟩
  · rw [z, hp] at h1
    cases h1
  · obtain ⟨c, e1, e2⟩ := h3 pos cv hc
    refine ⟨c, e1, s.all _ _ (fun z => ?_) e2⟩
    rw [z, hp] at e2
    cases e2
theorem nwT_more {H H1 H2 : Hp} (s : Same H H1) : Same (nwT H1 H2) (nwT H H2) := fun b o h => by
  obtain ⟨h1, h2⟩ := nwT_some h
  rw [nwT_at (h1.back (alive_of s))]
  exact h2
theorem keyN {N : Nat} {l : Kv} {i : Nat} {x : V} (h : NumD N l) (e : (l.map fun kv => kV kv.1)[i]? = some x) : ∃ (j : Nat) (u : Int), l[i]? = some ((.inl (j : Int) : Key), .int u) ∧ x = .int (j : Int) ∧ j < N ∧ valV l (.inl (j : Int) : Key) = some (.int u) := by
  have fl := h.flat
  obtain ⟨js, rfl, nd, hq⟩ := h
  rw [List.getElem?_map] at e
  obtain ⟨q, eq, rfl⟩ := Option.map_eq_some_iff.mp e
  have hm := List.mem_of_getElem? eq
  have e2 := eq
  rw [List.getElem?_map] at e2
  obtain ⟨r, er, rfl⟩ := Option.map_eq_some_iff.mp e2
  exact ⟨r.1, r.2, eq, rfl, (hq r (List.mem_of_getElem? er)).1, (fl _ hm).1⟩
/-- what the law asks of an outcome -/
structure Due (kvs : Kv) (ms : List Int) (o : OutC) : Prop where
  flat : FlatO o
  rds : NumD 6 o.rds
  mem : ∀ (k : Int) (v : V), valV o.rds (.inl k : Key) = some v → v = .int (ms.getD k.toNat 0)
  wrs : NumD 6 o.wrs
  kind : o.kd ≠ "done" → o.wrs = [] ∧ o.ltr = [] ∧ o.fin = kvs.map (·.2)
  why : o.rv = .non ↔ o.kd ≠ "fault"
theorem numD_nil {N : Nat} : NumD N [] := ⟨[], rfl, by simp, fun p h => nomatch h⟩
theorem due {n m : Int} {ms : List Int} {b : Bd} (O : OkS nm2 cells0 ms (exB cells0 ms b (rs0 (kv2 n m))).2) (nx : (exB cells0 ms b (rs0 (kv2 n m))).1 ≠ .x) (hl : ms.length = 6) (ok : b.ok nm2) : Due (kv2 n m) ms (outB (kv2 n m) (exB cells0 ms b (rs0 (kv2 n m)))) := by
  have nf := exB_nf (cs := cells0) (ms := ms) b (rs0 (kv2 n m)) ok
  have li : LocI (exB cells0 ms b (rs0 (kv2 n m))).2 := exB_in (good_loc ms) b _ fun v hv => by
    have hv : v ∈ [V.int n, V.int m] := hv
    simp only [List.mem_cons, List.not_mem_nil, or_false] at hv
    rcases hv with rfl | rfl
    · exact ⟨n, rfl⟩
    · exact ⟨m, rfl⟩
  have rm : RdM ms (exB cells0 ms b (rs0 (kv2 n m))).2 := exB_in (good_rd ms) b _ fun k v hv => nomatch hv
  generalize exB cells0 ms b (rs0 (kv2 n m)) = re at O nx nf li rm ⊢
  obtain ⟨r, s⟩ := re
  have fl2 : ∀ v ∈ (kv2 n m).map (·.2), flatB v = true := fun v hv => by
    have hv : v ∈ [V.int n, V.int m] := hv
    simp only [List.mem_cons, List.not_mem_nil, or_false] at hv
    rcases hv with rfl | rfl <;> rfl
  have D1 : NumD 6 s.rds := by rw [← hl]; exact O.rds
  have D2 : NumD 6 s.wrs := by rw [← hl]; exact O.wrs
  cases r with
  | x => exact absurd rfl nx
  | f z =>
    rw [outB_f]
    exact ⟨⟨D1.flat, fun p h => (nomatch h), fl2, fun v h => (nomatch h), rfl⟩, D1, rm, numD_nil, fun _ => ⟨rfl, rfl, rfl⟩, by simp⟩
  | k wd =>
    have wf : wd ≠ "fault" := fun z => nf (by rw [z])
    rw [outB_k]
    by_cases hw : wd = "done"
    · rw [if_pos hw]
      exact ⟨⟨D1.flat, D2.flat, fun v hv => by obtain ⟨i, rfl⟩ := li v hv; rfl, fun v hv => by obtain ⟨i, _, rfl⟩ := List.mem_map.mp hv; rfl, rfl⟩, D1, rm, D2, fun z => absurd hw z, by simp [wf]⟩
    · rw [if_neg hw]
      exact ⟨⟨D1.flat, fun p h => (nomatch h), fl2, fun v h => (nomatch h), rfl⟩, D1, rm, numD_nil, fun _ => ⟨rfl, rfl, rfl⟩, by simp [wf]⟩
theorem canLay_ints : ∀ l : List Int, PyData.canLayAll0 (l.map PyData.int) = true
  | [] => by simp [PyData.canLayAll0]
  | i :: r => by simp [PyData.canLayAll0, PyData.canLay0, canLay_ints r]
theorem depth_ints : ∀ l : List Int, PyData.depthAll (l.map PyData.int) = 0
  | [] => by simp [PyData.depthAll]
  | i :: r => by simp [PyData.depthAll, PyData.depth, depth_ints r]
theorem shaped_ints (l : List Int) : SeqAt.shaped (.list (l.map PyData.int)) = true := by
  simp [SeqAt.shaped, PyData.canLay0, PyData.depth, canLay_ints, depth_ints]
theorem eqvAll_same : ∀ l : List Int, PyData.eqvAll (l.map PyData.int) (l.map PyData.int) = true
  | [] => by simp [PyData.eqvAll]
  | i :: r => by
    rw [List.map_cons, PyData.eqvAll, eqvAll_same r, PyData.eqv]
    simp
theorem ne_same (l : List Int) : (!PyData.eqv (.list (l.map PyData.int)) (.list (l.map PyData.int))) = false := by
  rw [PyData.eqv, eqvAll_same]
  rfl
theorem dpA {K : PySem.W.Frag} {H : Hp} : ∀ ms : List Int, DpAll K H (ms.map V.int) (ms.map PyData.int)
  | [] => .nil
  | i :: r => .cons (.int i) (dpA r)
theorem dpL {K : PySem.W.Frag} {H : Hp} {a : Addr} (ms : List Int) (h : H a = some (.lst (ms.map V.int))) : Dp K H (.ref a) (.list (ms.map PyData.int)) := .lst (SqL.of h) (dpA ms)
theorem outB_rds {kvs : Kv} {re : Re × RS} (nx : re.1 ≠ .x) : (outB kvs re).rds = re.2.rds := by
  obtain ⟨r, s⟩ := re
  cases r with
  | x => exact absurd rfl nx
  | f z => rfl
  | k wd =>
    rw [outB_k]
    by_cases h : wd = "done"
    · rw [if_pos h]
    · rw [if_neg h]
section
variable {P : Program} {w : World} {K : PySem.W.Frag} {mg : Str → Option Value} {base : Heap} {A : Adr}
/-- the law's own things: row of draws at p, names at pn, body v -/
structure LwS (K : PySem.W.Frag) (A : Adr) (H : Hp) (p pn : Addr) (n m : Int) (b : Bd) (v : V) : Prop where
  row : Row H p
  nms : PrAt K (kp [p] H) pn (kv2 n m)
  bod : Rp K (kp [p] H) (.lst b.row) [v]
  tab : TabsN (TabV A) H
theorem kp1 {p : Addr} {H H' : Hp} (s : Same (kp [p] H) H') : Same (kp [p] H) (kp [p] H') := fun c o q => kp_at (s c o q) (kp_some q).1 (kp_some q).2.2
theorem LwS.mono {H H' : Hp} {p pn : Addr} {n m : Int} {b : Bd} {v : V} (h : LwS K A H p pn n m b v) (s : Same (kp [p] H) H') (r : Row H' p) (t : TabsN (TabV A) H') : LwS K A H' p pn n m b v :=
  ⟨r, h.nms.mono (kp1 s), Rp.mono (kp1 s) h.bod, t⟩
theorem LwS.same {H H' : Hp} {p pn : Addr} {n m : Int} {b : Bd} {v : V} (h : LwS K A H p pn n m b v) (s : Same H H') : LwS K A H' p pn n m b v := by
  obtain ⟨ns, e⟩ := h.row
  exact h.mono (fun c o q => s _ _ (kp_some q).2.1) ⟨ns, s _ _ e⟩ fun t ht => (h.tab t ht).ext s
theorem LwS.stay {H H' : Hp} {p pn : Addr} {n m : Int} {b : Bd} {v : V} (h : LwS K A H p pn n m b v) (s : Stay p H H') (r : Row H' p) : LwS K A H' p pn n m b v := by
  obtain ⟨ns, e⟩ := h.row
  exact h.mono (s.same (List.mem_singleton.mpr rfl)) r (tabs_stay h.tab s e)
theorem LwS.kp {H H' : Hp} {p pn : Addr} {n m : Int} {b : Bd} {v : V} (h : LwS K A H p pn n m b v) (s : Kp [] H H') (t : TabsN (TabV A) H') : LwS K A H' p pn n m b v := by
  obtain ⟨ns, e⟩ := h.row
  exact h.mono (fun c o q => s c o (by simp) (kp_some q).2.1 (kp_some q).2.2) ⟨ns, s _ _ (by simp) e fun ps z => by cases z⟩ t
theorem go_rb {σ : L2.St} {H : Hp} {tb tn tm : TE} {E E' : XK} {Q : VK} {p pn pm : Addr} {n m : Int} {b : Bd} {v : V} {ms : List Int} (L : LwS K A H p pn n m b v) (hb : ∀ H', Te tb σ H' v) (hn : ∀ H', Te tn σ H' (.ref pn)) (hm : ∀ H', Te tm σ H' (.ref pm)) (em : H pm = some (.lst (ms.map V.int))) (npm : pm ≠ p) (rn : InR n) (rm : InR m) (hl : ms.length = 6) (hq : ∀ q ∈ ms, InR q)
    (ok : b.ok nm2) (dp : b.dp ≤ 3) (cst : b.cst ≤ 64800) (k : ∀ x H', Kp [] H H' → LwS K A H' p pn n m b v → OkS nm2 cells0 ms (exB cells0 ms b (rs0 (kv2 n m))).2 → (exB cells0 ms b (rs0 (kv2 n m))).1 ≠ .x → OutAt A (nwT H H') x (outB (kv2 n m) (exB cells0 ms b (rs0 (kv2 n m)))) → Q (.ref x) H') :
    tCall (spRB K A 4) [] E (tCons tb (tCons (tCall (spCells K) [] E' tNil) (tCons tn (tCons tm tNil)))) σ H Q := by
  refine call_un (cons_un (Te.go (hb _) (cons_un (call_un (nil_un ⟨rfl, fun pc H1 hpc s1 hc => ?_⟩)))))
  refine cons_un (Te.go (hn _) (cons_un (Te.go (hm _) (nil_un ?_))))
  have L1 := L.same s1
  have npc : pc ≠ p := fun z => by
    obtain ⟨ns, e⟩ := L.row
    rw [z, e] at hpc
    cases hpc
  have C1 : CellsIn K (K13.kp [p] H1) pc cells0 := by
    obtain ⟨xs, e, q⟩ := hc
    refine ⟨xs, SqL.of (kp_at e (by simpa using npc) fun ps z => by cases z), paired_mapP q fun c u ⟨t, ev, et⟩ => ⟨t, ev, SqT.of (kp_at et (fun z => ?_) fun ps z => by cases z)⟩⟩
    obtain ⟨ns, e2⟩ := L1.row
    rw [List.mem_singleton.mp z, e2] at et
    cases et
  have nx : (exB cells0 ms b (rs0 (kv2 n m))).1 ≠ .x := (fitsB b (rs0 (kv2 n m)) (by show 0 + b.cst ≤ 100000; omega)).1
  refine ⟨v, pc, pn, pm, K13.kp [p] H1, b, nm2, cells0, ms, kv2 n m, rfl, kp_sub, fun c ps z => (kp_some z).2.2 ps rfl, L1.bod, ok, by omega, C1, L1.nms, kp_at (s1 _ _ em) (by simpa using npm) (fun ps z => by cases z), okS0 rn rm hl hq, nx, L1.tab, by show 2 ≤ 1000; decide, fun x H' kk tt O o => ?_⟩
  exact k x H' (fun c u m q z => kk c u m (s1 _ _ q) z) (L1.kp kk tt) O nx (o.mono (nwT_more s1))
end
end K13

namespace K13
open PySem L2 YF YG NdefX
/-! ### the names stay the names -/
section
variable {cs : List Cl} {ms : List Int} {J : RS → Prop}
theorem lk_inR (g : ∀ s k, J s → J (rd ms s k).2) {s : RS} {e : Ex} {is : List Int} (h : J s) : J (lkR cs ms s e is).2 := by
  cases e with
  | var w x =>
    cases x with
    | str x =>
      show J (match valV s.loc (.inr x : Key) with | some (.int n) => (Rz.ok n, s) | _ => (Rz.er "", s) : Rz × RS).2
      split <;> exact h
    | _ => exact h
  | cell nm a =>
    show J (match place cs nm (is.headD 0) 0 with | some k => rd ms s k | none => (Rz.er "index", s)).2
    cases place cs nm (is.headD 0) 0 with
    | none => exact h
    | some k => exact g s k h
  | _ => exact h
theorem res_inR (g : ∀ s k, J s → J (rd ms s k).2) {s : RS} {e : Ex} {is : List Int} (h : J s) : J (resE (lkR cs ms) s e is).2 := by
  cases e with
  | two w a b =>
    rw [resE_two]
    by_cases q : logic w
    · rw [if_pos q]
      exact h
    · rw [if_neg q]
      cases f2 w (is.headD 0) (is.getLastD 0) <;> exact h
  | var w x => exact lk_inR g (e := .var w x) h
  | cell x a => exact lk_inR g (e := .cell x a) h
  | num n => exact h
  | one w a => exact h
theorem ev_inR (g : ∀ s k, J s → J (rd ms s k).2) : ∀ {e : Ex} {s : RS}, J s → J (ev (lkR cs ms) s e).2
  | .num n, s, h => res_inR g (e := .num n) h
  | .var w x, s, h => res_inR g (e := .var w x) h
  | .cell x a, s, h => then_in (ev_inR g (e := a) h) fun i t q => res_inR g (e := .cell x a) q
  | .one w a, s, h => then_in (ev_inR g (e := a) h) fun i t q => res_inR g (e := .one w a) q
  | .two w a b, s, h => then_in (ev_inR g (e := a) h) fun i t h2 => by
    by_cases q : dec w [i] = true
    · rw [if_pos q]
      exact res_inR g (e := .two w a b) h2
    · rw [if_neg q]
      exact then_in (ev_inR g (e := b) h2) fun j u h3 => res_inR g (e := .two w a b) h3
end
/-- the names of the locals -/
def KeyL (l : List Key) (s : RS) : Prop := s.loc.map (·.1) = l
theorem key_rd {ms : List Int} {l : List Key} (s : RS) (k : Int) (h : KeyL l s) : KeyL l (rd ms s k).2 := by
  unfold rd
  split <;> exact h
theorem key_put {l : List Key} {s : RS} {x : Str} {v : V} (h : KeyL l s) (hx : (.inr x : Key) ∈ l) : KeyL l { s with loc := putK s.loc (.inr x : Key) v } := by
  have h : s.loc.map (·.1) = l := h
  rw [← h] at hx
  obtain ⟨q, hq, eq⟩ := List.mem_map.mp hx
  show (putK s.loc (.inr x : Key) v).map (·.1) = l
  unfold putK
  rw [if_pos (List.any_eq_true.mpr ⟨q, hq, decide_eq_true eq⟩), List.map_map, ← h]
  refine List.map_congr_left fun r hr => ?_
  show (if r.1 = (.inr x : Key) then (r.1, v) else r).1 = r.1
  by_cases z : r.1 = (.inr x : Key)
  · rw [if_pos z]
  · rw [if_neg z]
section
variable {cs : List Cl} {ms : List Int} {names : List Str} {l : List Key}
mutual
theorem exS_key (hl : ∀ x ∈ names, (.inr x : Key) ∈ l) : ∀ (b : Sm) (s : RS), b.ok names → KeyL l s → KeyL l (exS cs ms b s).2
  | .set x e, s, ok, h => val_in (ev_inR key_rd h) fun i t q => key_put q (hl x ok.1)
  | .put nm i e, s, _, h => val_in (ev_inR key_rd h) fun i t q => val_in (ev_inR key_rd q) fun j u q2 => by
    cases place cs nm i 0 with
    | none => exact q2
    | some k => exact q2
  | .later e, s, _, h => val_in (ev_inR key_rd h) fun i t q => by
    by_cases l : t.ltr.length < 100000
    · rw [if_pos l]
      exact q
    · rw [if_neg l]
      exact q
  | .cond c x y, s, ok, h => val_in (ev_inR key_rd h) fun i t q => by
    by_cases l : i ≠ 0
    · rw [if_pos l]
      exact exB_key hl x t ok.2.1 q
    · rw [if_neg l]
      exact exB_key hl y t ok.2.2 q
  | .rep c x, s, ok, h => val_in (ev_inR key_rd h) fun i t q => by
    by_cases l : i < 0 ∨ 20 < i
    · rw [if_pos l]
      exact q
    · rw [if_neg l]
      exact loop_in (fun t q => exB_key hl x t ok.2 q) _ _ q
  | .choose x y, s, ok, h => by
    have hx := exB_key hl x s ok.1 h
    show KeyL _ (match exB cs ms x s with | (.k w, s1) => if w = "retry" then exB cs ms y { s with rds := s1.rds } else (.k w, s1) | (.f z, s1) => (.f z, s1) | (.x, s1) => (.x, s1)).2
    cases e : exB cs ms x s with
    | mk a t =>
      rw [e] at hx
      cases a with
      | k w =>
        show KeyL _ (if w = "retry" then exB cs ms y { s with rds := t.rds } else (.k w, t)).2
        by_cases q : w = "retry"
        · rw [if_pos q]
          exact exB_key hl y _ ok.2 h
        · rw [if_neg q]
          exact hx
      | f z => exact hx
      | x => exact hx
  | .word w, s, _, h => h
theorem exB_key (hl : ∀ x ∈ names, (.inr x : Key) ∈ l) : ∀ (b : Bd) (s : RS), b.ok names → KeyL l s → KeyL l (exB cs ms b s).2
  | .nil, s, _, h => h
  | .cons a r, s, ok, h => and_in2 (exS_key hl a s ok.1 h) fun t q => exB_key hl r t ok.2 q
end
end
theorem loc2 {s : RS} (h : KeyL [(.inr "x" : Key), .inr "y"] s) : ∃ a b : V, s.loc = [((.inr "x" : Key), a), ((.inr "y" : Key), b)] := by
  have h : s.loc.map (·.1) = [(.inr "x" : Key), .inr "y"] := h
  match e : s.loc, h with
  | [(k1, a), (k2, b)], h =>
    have h : [k1, k2] = [(.inr "x" : Key), .inr "y"] := h
    obtain ⟨rfl, h2⟩ := List.cons.inj h
    obtain ⟨rfl, _⟩ := List.cons.inj h2
    exact ⟨a, b, rfl⟩
/-! ### what a block comes to -/
theorem outB_tells {kvs : Kv} {re : Re} {s : RS} {xs : List V} (hr : ReT re xs) : xs = [.str (outB kvs (re, s)).kd, (outB kvs (re, s)).rv] ∧ (outB kvs (re, s)).rds = s.rds ∧
    ((outB kvs (re, s)).kd ≠ "done" → (outB kvs (re, s)).wrs = [] ∧ (outB kvs (re, s)).fin = kvs.map (·.2) ∧ (outB kvs (re, s)).ltr = []) ∧
    ((outB kvs (re, s)).kd = "done" → (outB kvs (re, s)).wrs = s.wrs ∧ (outB kvs (re, s)).fin = s.loc.map (·.2) ∧ (outB kvs (re, s)).ltr = s.ltr.map V.int ∧ (outB kvs (re, s)).rv = .non) := by
  cases re with
  | x => exact hr.elim
  | f z => exact ⟨hr, rfl, fun _ => ⟨rfl, rfl, rfl⟩, fun h => absurd h (show ¬ (("fault" : Str) = "done") by decide +kernel)⟩
  | k wd =>
    rw [outB_k]
    by_cases h : wd = "done"
    · rw [if_pos h]
      exact ⟨hr, rfl, fun z => absurd h z, fun _ => ⟨rfl, rfl, rfl, rfl⟩⟩
    · rw [if_neg h]
      exact ⟨hr, rfl, fun _ => ⟨rfl, rfl, rfl⟩, fun z => absurd z h⟩
def DueAt (H : Hp) (t : Addr) (o : OutC) : Prop := ∃ a b f l, H t = some (.tup [.str o.kd, .ref a, .ref b, .ref f, .ref l, o.rv]) ∧ H a = some (.dK o.rds) ∧ H b = some (.dK o.wrs) ∧ H f = some (.lst o.fin) ∧ H l = some (.lst o.ltr)
section
variable {P : Program} {w : World} {K : PySem.W.Frag} {mg : Str → Option Value} {base : Heap} {A : Adr}
def spNewL (K : PySem.W.Frag) : Sp := fun vs H Q _ => ∃ (pc pn pm : Addr) (B : Hp) (names : List Str) (cs : List Cl) (ms : List Int) (kvs : Kv), vs = [.ref pc, .ref pn, .ref pm] ∧ Same B H ∧ PrAt K B pn kvs ∧ CellsIn K B pc cs ∧ B pm = some (.lst (ms.map V.int)) ∧ OkS names cs ms (rs0 kvs) ∧
  ∀ p H', Same H H' → (∀ x ∈ ownL p, H x = none) → WlH K H' B p names cs ms (rs0 kvs) → Q (.ref p.self) H'
theorem ok_law_new (T : Txt K mg A) : FnOk P w K mg base CX0 1 A.a__law_new A.d__law_new ["cells", "names", "memory"] (spNewL K) := by
  refine T.F__law_new.ok sc_law_new (fun vs H Q E ⟨_, _, _, _, _, _, _, _, e, _⟩ => by rw [e]; rfl) (fun cdv A' outer s0 H vs Q E hr h => ?_)
  obtain ⟨pc, pn, pm, B, names, cs, ms, kvs, rfl, sb, hn, hc, hm, O, k⟩ := h
  refine ⟨_, pss_one (ps_ret (pe_disp (pps_cons (pe_str) (pv 0) (pps_cons (pe_str) (pe_callTy (call_dictP rfl) (by rfl) T.n_dict (by decide +kernel) (pa_cons (pv 1) pa_nil)) (pps_cons (pe_str) (pv 2) (pps_cons (pe_str) (pe_dnewK) (pps_cons (pe_str) (pe_dnewK) (pps_cons (pe_str) (pe_lst pa_nil) (pps_nil))))))) (by rfl) (by rfl) (fun z => by cases z) (by decide))), ?_⟩
  intro pw hpw
  obtain ⟨ps, g1, g2⟩ := hn.mono (sb.trans (Same.upd (o := .dK []) hpw))
  refine ⟨_, rfl, _, rfl, pn, ps, kvs, rfl, g1, g2, fun dl hdl => ?_⟩
  refine ⟨_, rfl, fun dw hdw => fun dr hdr => ?_⟩
  refine ⟨Nat.zero_le _, fun ll hll => ?_⟩
  have a1 : Same H (upd H pw (.dK [])) := Same.upd hpw
  have p1 : (upd H pw (.dK [])) pw = some (.dK []) := upd_same
  generalize upd H pw (HO.dK []) = H1 at a1 p1 hdl hdw hdr hll ⊢
  have a2 : Same H1 (upd H1 dl (.dK (mergeK [] kvs))) := Same.upd hdl
  have p2 : (upd H1 dl (.dK (mergeK [] kvs))) dl = some (.dK (mergeK [] kvs)) := upd_same
  generalize upd H1 dl (HO.dK (mergeK [] kvs)) = H2 at a2 p2 hdw hdr hll ⊢
  have a3 : Same H2 (upd H2 dw (.dK [])) := Same.upd hdw
  have p3 : (upd H2 dw (.dK [])) dw = some (.dK []) := upd_same
  generalize upd H2 dw (HO.dK []) = H3 at a3 p3 hdr hll ⊢
  have a4 : Same H3 (upd H3 dr (.dK [])) := Same.upd hdr
  have p4 : (upd H3 dr (.dK [])) dr = some (.dK []) := upd_same
  generalize upd H3 dr (HO.dK []) = H4 at a4 p4 hll ⊢
  have a5 : Same H4 (upd H4 ll (.lst [])) := Same.upd hll
  have p5 : (upd H4 ll (.lst [])) ll = some (.lst []) := upd_same
  generalize upd H4 ll (HO.lst []) = H5 at a5 p5 ⊢
  have q1 : H5 pw = some (.dK []) := a5 _ _ (a4 _ _ (a3 _ _ (a2 _ _ p1)))
  have q2 : H5 dl = some (.dK (mergeK [] kvs)) := a5 _ _ (a4 _ _ (a3 _ _ p2))
  have q3 : H5 dw = some (.dK []) := a5 _ _ (a4 _ _ p3)
  have q4 : H5 dr = some (.dK []) := a5 _ _ p4
  have n21 : pw ≠ dl := ne_of_none p1 hdl
  have n31 : pw ≠ dw := ne_of_none (a2 _ _ p1) hdw
  have n41 : pw ≠ dr := ne_of_none (a3 _ _ (a2 _ _ p1)) hdr
  have n51 : pw ≠ ll := ne_of_none (a4 _ _ (a3 _ _ (a2 _ _ p1))) hll
  have n32 : dl ≠ dw := ne_of_none p2 hdw
  have n42 : dl ≠ dr := ne_of_none (a3 _ _ p2) hdr
  have n43 : dw ≠ dr := ne_of_none p3 hdr
  refine ⟨q1, kW ⟨pw, pw, pc, pm, dl, dr, dw, ll⟩, rfl, by show 6 ≤ 15; decide, ?_⟩
  have em : mergeK ([] : Kv) (kW ⟨pw, pw, pc, pm, dl, dr, dw, ll⟩) = kW ⟨pw, pw, pc, pm, dl, dr, dw, ll⟩ := rfl
  rw [em]
  have sH : Same H (upd H5 pw (.dK (kW ⟨pw, pw, pc, pm, dl, dr, dw, ll⟩))) := fun b o e => by
    rw [upd_ne (ne_of_none e hpw)]
    exact a5 _ _ (a4 _ _ (a3 _ _ (a2 _ _ (a1 _ _ e))))
  have fr : ∀ x ∈ ownL ⟨pw, pw, pc, pm, dl, dr, dw, ll⟩, H x = none := fun x hx => by
    simp only [ownL, List.mem_cons, List.not_mem_nil, or_false] at hx
    rcases hx with rfl | rfl | rfl | rfl | rfl
    · exact hpw
    · exact none_of a1 hdl
    · exact none_of ((a1.trans a2).trans a3) hdr
    · exact none_of (a1.trans a2) hdw
    · exact none_of (((a1.trans a2).trans a3).trans a4) hll
  refine k ⟨pw, pw, pc, pm, dl, dr, dw, ll⟩ _ sH fr ⟨upd_same, by rw [upd_ne n21.symm]; exact q2, by rw [upd_ne n41.symm]; exact q4, by rw [upd_ne n31.symm]; exact q3, by rw [upd_ne n51.symm]; exact p5, n42, n43, n32, n21, n41, n31, sb.trans sH, fun b hb => ?_, hc, hm, O⟩
  exact none_of sb (fr b hb)
end
end K13

namespace K13
open PySem L2 YF YG NdefX
section
variable {P : Program} {w : World} {K : PySem.W.Frag} {mg : Str → Option Value} {base : Heap} {A : Adr}
def spDue (K : PySem.W.Frag) : Sp := fun vs H Q _ => ∃ (pc pn pm : Addr) (B : Hp) (v : V) (b : Bd) (n m : Int) (ms : List Int), vs = [v, .ref pc, .ref pn, .ref pm] ∧ Same B H ∧ Rp K B (.lst b.row) [v] ∧ b.ok nm2 ∧ b.dp < 4 ∧ PrAt K B pn (kv2 n m) ∧ CellsIn K B pc cells0 ∧ B pm = some (.lst (ms.map V.int)) ∧ OkS nm2 cells0 ms (rs0 (kv2 n m)) ∧ (exB cells0 ms b (rs0 (kv2 n m))).1 ≠ .x ∧
  ∀ t H', Same H H' → DueAt H' t (outB (kv2 n m) (exB cells0 ms b (rs0 (kv2 n m)))) → Q (.ref t) H'
theorem go_sp {sp : Sp} {σ : L2.St} {H : Hp} {ta : TA} {E : XK} {Q : VK} {vs : List V} (ha : Ta ta σ H vs) (h : sp vs H Q E) : tCall sp [] E ta σ H Q := ha _ (by rw [List.append_nil]; exact h)
theorem ok_law_outcome (T : Txt K mg A) : FnOk P w K mg base CX0 29 A.a__law_outcome A.d__law_outcome ["body", "cells", "names", "memory"] (spDue K) := by
  refine T.F__law_outcome.ok (k := 28) sc_law_outcome (fun vs H Q E ⟨_, _, _, _, _, _, _, _, _, e, _⟩ => by rw [e]; rfl) (fun cdv A' outer s0 H vs Q E hr h => ?_)
  obtain ⟨pc, pn, pm, B, v, b, n, m, ms, rfl, sb, r, ok, hdp, hn, hc, hm, O, nx, k⟩ := h
  refine ⟨_, pss_cons (ps_set (i := 4) sc_law_outcome.nd rfl (Or.inr rfl) (pe_call (ok_law_new T) (hr.mono (by decide)) rfl T.g__law_new T.F__law_new.kp T.b__law_new .nil pass0 (pa_cons (pv 1) (pa_cons (pv 2) (pa_cons (pv 3) pa_nil)))))
  (pss_cons (ps_asg (pe_call (ok_law_runs T 4) (hr.mono (by omega)) rfl T.g__law_runs T.F__law_runs.kp T.b__law_runs .nil pass0 (pa_cons (pv 4) (pa_cons (pv 0) pa_nil))) (pg_tup (by rfl) (pgs_cons (pg_name (i := 5) sc_law_outcome.nd rfl (Or.inl rfl)) (pgs_cons (pg_name (i := 6) sc_law_outcome.nd rfl (Or.inl rfl)) pgs_nil))))
  (pss_cons (ps_setLc (i := 7) (own := [("name", 9), ("value", 10)]) (g := gTup K 2 (gCons (gName 9) (gCons (gName 10) gNil))) (tt := tYes) rfl sc_law_outcome.nd rfl rfl (sw_true rfl rfl rfl (by decide +kernel)) (pi_list (pv 2)) (blkOk_by (N := ["body", "cells", "names", "memory", "world", "kind", "reason", "before", "after", "name", "value"]) (sc := defScope s_law_outcome) (by decide +kernel)) (fun _ _ _ _ _ => pg_tup (by rfl) (pgs_cons (pg_name (i := 9) sc_law_outcome.nd rfl (Or.inl rfl)) (pgs_cons (pg_name (i := 10) sc_law_outcome.nd rfl (Or.inl rfl)) pgs_nil))) (fun _ _ _ _ _ => pts_nil) (fun _ _ _ _ _ => pv 10))
  (pss_cons (ps_if (pt_cmpR op_ne (pv 5) (pe_str) (nomark _))
  (pss_one (ps_ret (pe_tup (pa_cons (pv 5) (pa_cons (pe_dget (hu_of hr) (pv 4) (pe_str) (fun _ _ => rfl)) (pa_cons (pe_dnewK) (pa_cons (pv 7) (pa_cons (pe_lst pa_nil) (pa_cons (pv 6) pa_nil)))))))))
  (pss_nil))
  (pss_cons (ps_setLc (i := 8) (own := [("name", 9), ("value", 10)]) (g := gTup K 2 (gCons (gName 9) (gCons (gName 10) gNil))) (tt := tYes) rfl sc_law_outcome.nd rfl rfl (sw_true rfl rfl rfl (by decide +kernel)) (pi_list (pv 2)) (blkOk_by (N := ["body", "cells", "names", "memory", "world", "kind", "reason", "before", "after", "name", "value"]) (sc := defScope s_law_outcome) (by decide +kernel)) (fun _ _ _ _ _ => pg_tup (by rfl) (pgs_cons (pg_name (i := 9) sc_law_outcome.nd rfl (Or.inl rfl)) (pgs_cons (pg_name (i := 10) sc_law_outcome.nd rfl (Or.inl rfl)) pgs_nil))) (fun _ _ _ _ _ => pts_nil) (fun _ _ _ _ _ => pe_dget (hu_of hr) (pe_dget (hu_of hr) (pv 4) (pe_str) (fun _ _ => rfl)) (pv 9) (fun _ _ => rfl)))
  (pss_one (ps_ret (pe_tup (pa_cons (pv 5) (pa_cons (pe_dget (hu_of hr) (pv 4) (pe_str) (fun _ _ => rfl)) (pa_cons (pe_dget (hu_of hr) (pv 4) (pe_str) (fun _ _ => rfl)) (pa_cons (pv 8) (pa_cons (pe_dget (hu_of hr) (pv 4) (pe_str) (fun _ _ => rfl)) (pa_cons (pe_non) pa_nil))))))))))))), ?_⟩
  refine asg_call (vs := [.ref pc, .ref pn, .ref pm]) (ta_cons (te_var rfl) (ta_cons (te_var rfl) (ta_cons (te_var rfl) ta_nil))) ⟨pc, pn, pm, B, nm2, cells0, ms, kv2 n m, rfl, sb, hn, hc, hm, O, fun p H1 s1 fr W => ?_⟩
  refine set_sl (σ' := [some v, some (.ref pc), some (.ref pn), some (.ref pm), some (.ref p.self), none, none, none, none, none, none]) rfl ?_
  refine go_sp (vs := [.ref p.self, v]) (ta_cons (te_var rfl) (ta_cons (te_var rfl) ta_nil)) ⟨p, B, nm2, cells0, ms, rs0 (kv2 n m), b, v, rfl, W, by decide +kernel, r, ok, hdp, nx, fun t H2 xs re s' q ex S ht hr => ?_⟩
  have kk : KeyL [(.inr "x" : Key), .inr "y"] s' := by
    have := exB_key (cs := cells0) (ms := ms) (names := nm2) (l := [(.inr "x" : Key), .inr "y"]) (fun x hx => by
      rcases List.mem_cons.mp hx with rfl | hx
      · exact List.mem_cons_self
      · rw [List.mem_singleton.mp hx]
        exact List.mem_cons_of_mem _ List.mem_cons_self) b (rs0 (kv2 n m)) ok rfl
    rw [ex] at this
    exact this
  rw [ex] at k
  obtain ⟨ex1, ex2, ex3, ex4⟩ := outB_tells (kvs := kv2 n m) (s := s') hr
  generalize outB (kv2 n m) (re, s') = o at k ex1 ex2 ex3 ex4
  subst ex1
  have s2 : Same H H2 := fun c u e => S.fr c u (fun z => by rw [fr c z] at e; cases e) (s1 _ _ e)
  refine pair_goT (SqT.of ht) ?_
  refine set_sl (σ' := [some v, some (.ref pc), some (.ref pn), some (.ref pm), some (.ref p.self), some (.str o.kd), some o.rv, none, none, none, none]) rfl ?_
  obtain ⟨ps, h1, h2⟩ := hn
  have hn2 : SqL K H2 pn (ps.map V.ref) := Same.sqL (sb.trans s2) h1
  have ob := S.run.ob
  rw [S.nx.self] at ob
  try dsimp only
  refine asg_un ?_
  refine lc_go (ti_list (te_var rfl) hn2) walk_list (fun L i H' => Same H2 H' ∧ H' L = some (.lst (((kv2 n m).take i).map (·.2)))) (fun L hL => ⟨Same.upd hL, upd_same⟩) (fun L i H' _ h => Same.sqL h.1 hn2) ?_ fun L H3 hL hP => ?_
  · rintro L i x H3 H' hL hi ⟨s3, e3⟩ ⟨rfl, ex⟩
    rw [List.getElem?_map] at ex
    obtain ⟨t, et, ev⟩ := Option.map_eq_some_iff.mp ex
    subst ev
    obtain ⟨kv, ek, q⟩ := paired_take h2 et
    refine pair_goT (Same.sqT ((sb.trans s2).trans s3) q) ⟨rfl, yes_go ?_⟩
    have lt : (((kv2 n m).take i).map (·.2)).length < sizeLine := by
      rw [List.length_map, List.length_take, sizeLine_eq]
      have : (kv2 n m).length = 2 := rfl
      omega
    refine Te.go (te_var rfl) ⟨_, e3, lt, fun b o e => ?_, ?_⟩
    · rw [upd_ne fun z => by rw [z, hL] at e; cases e]
      exact s3 _ _ e
    · rw [upd_same, List.take_add_one, ek, List.map_append]
      rfl
  · obtain ⟨s3, e3⟩ := hP
    have el : (kv2 n m).take (ps.map V.ref).length = kv2 n m := by
      rw [List.length_map, h2.length, List.take_length]
    rw [el] at e3
    have sall := s2.trans s3
    try dsimp only
    refine set_sl (σ' := [some v, some (.ref pc), some (.ref pn), some (.ref pm), some (.ref p.self), some (.str o.kd), some o.rv, some (.ref L), none, none, none]) rfl ?_
    refine if_seq (tt_test (te_ne (te_var rfl) te_c rfl)) (fun hw => ?_) fun hw => ?_
    · have hw : o.kd ≠ "done" := by
        rw [deq_str] at hw
        simpa using hw
      obtain ⟨w1, w2, w3⟩ := ex3 hw
      refine ret_un (tup_un (cons_un (Te.go (te_var rfl) (cons_un (Te.go (te_dgetS (te_var rfl) te_c (s3 _ _ ob) rfl) (cons_un fun dw hdw => cons_un (Te.go (te_var rfl) (cons_un (lstd_un (nil_un ⟨Nat.zero_le _, fun dl hdl => cons_un (Te.go (te_var rfl) (nil_un ⟨show 6 ≤ sizeLine by decide, fun t ht => ?_⟩))⟩))))))))))
      have a4 : Same H3 (upd H3 dw (.dK [])) := Same.upd hdw
      have p4 : (upd H3 dw (.dK [])) dw = some (.dK []) := upd_same
      generalize upd H3 dw (HO.dK []) = H4 at a4 p4 hdl ht ⊢
      have a5 : Same H4 (upd H4 dl (.lst [])) := Same.upd hdl
      have p5 : (upd H4 dl (.lst [])) dl = some (.lst []) := upd_same
      generalize upd H4 dl (HO.lst []) = H5 at a5 p5 ht ⊢
      have a6 : Same H5 (upd H5 t (.tup [.str o.kd, .ref q.dr, .ref dw, .ref L, .ref dl, o.rv])) := Same.upd ht
      exact k t _ (((sall.trans a4).trans a5).trans a6) ⟨q.dr, dw, L, dl, upd_same, by rw [ex2]; exact a6 _ _ (a5 _ _ (a4 _ _ (s3 _ _ S.run.rds))), by rw [w1]; exact a6 _ _ (a5 _ _ p4), by rw [w2]; exact a6 _ _ (a5 _ _ (a4 _ _ e3)), by rw [w3]; exact a6 _ _ p5⟩
    · have hw : o.kd = "done" := by
        rw [deq_str] at hw
        simpa using hw
      obtain ⟨w1, w2, w3, w4⟩ := ex4 hw
      have hn3 : SqL K H3 pn (ps.map V.ref) := Same.sqL s3 hn2
      try dsimp only
      refine asg_un ?_
      refine lc_go (ti_list (te_var rfl) hn3) walk_list (fun L i H' => Same H3 H' ∧ H' L = some (.lst ((s'.loc.take i).map (·.2)))) (fun L hL => ⟨Same.upd hL, upd_same⟩) (fun L i H' _ h => Same.sqL h.1 hn3) ?_ fun L2 H4 hL2 hP => ?_
      · rintro L2 i x H4 H' hL2 hi ⟨s4, e4⟩ ⟨rfl, ex⟩
        rw [List.getElem?_map] at ex
        obtain ⟨t, et, ev⟩ := Option.map_eq_some_iff.mp ex
        subst ev
        obtain ⟨kv, ek, q9⟩ := paired_take h2 et
        refine pair_goT (Same.sqT (((sb.trans s2).trans s3).trans s4) q9) ⟨rfl, yes_go ?_⟩
        obtain ⟨va, vb, el2⟩ := loc2 kk
        have lt : ((s'.loc.take i).map (·.2)).length < sizeLine := by
          rw [List.length_map, List.length_take, sizeLine_eq]
          have : s'.loc.length = 2 := by rw [el2]; rfl
          omega
        have key : ∃ (x : Str) (u : V), kV kv.1 = .str x ∧ s'.loc[i]? = some ((.inr x : Key), u) ∧ valV s'.loc (.inr x : Key) = some u := by
          rw [el2]
          have hi2 : i = 0 ∨ i = 1 := by
            have : (kv2 n m)[i]? ≠ none := by rw [ek]; exact fun z => nomatch z
            have : i < (kv2 n m).length := by
              by_cases z : i < (kv2 n m).length
              · exact z
              · exact absurd (List.getElem?_eq_none (by omega)) this
            have : (kv2 n m).length = 2 := rfl
            omega
          rcases hi2 with rfl | rfl
          · cases ek
            exact ⟨"x", va, rfl, rfl, rfl⟩
          · cases ek
            exact ⟨"y", vb, rfl, rfl, rfl⟩
        obtain ⟨x, u, ekx, e5, e6⟩ := key
        rw [ekx]
        refine Te.go (te_dgetS (te_dgetS (te_var rfl) te_c (s4 _ _ (s3 _ _ ob)) rfl) (te_var rfl) (s4 _ _ (s3 _ _ S.run.loc)) e6) ⟨_, e4, lt, fun b o e => ?_, ?_⟩
        · rw [upd_ne fun z => by rw [z, hL2] at e; cases e]
          exact s4 _ _ e
        · rw [upd_same, List.take_add_one, e5, List.map_append]
          rfl
      · obtain ⟨s4, e4⟩ := hP
        have el4 : s'.loc.take (ps.map V.ref).length = s'.loc := by
          obtain ⟨va, vb, el2⟩ := loc2 kk
          rw [List.length_map, h2.length, el2]
          rfl
        rw [el4] at e4
        try dsimp only
        refine set_sl (σ' := [some v, some (.ref pc), some (.ref pn), some (.ref pm), some (.ref p.self), some (.str o.kd), some o.rv, some (.ref L), some (.ref L2), none, none]) rfl ?_
        refine ret_un (tup_un ((ta_cons (te_var rfl) (ta_cons (te_dgetS (te_var rfl) te_c (s4 _ _ (s3 _ _ ob)) rfl) (ta_cons (te_dgetS (te_var rfl) te_c (s4 _ _ (s3 _ _ ob)) rfl) (ta_cons (te_var rfl) (ta_cons (te_dgetS (te_var rfl) te_c (s4 _ _ (s3 _ _ ob)) rfl) (ta_cons te_c ta_nil)))))) _ ⟨show 6 ≤ sizeLine by decide, fun t ht => ?_⟩))
        have a6 : Same H4 (upd H4 t (.tup [.str o.kd, .ref q.dr, .ref q.dw, .ref L2, .ref q.ll, .non])) := Same.upd ht
        exact k t _ ((sall.trans s4).trans a6) ⟨q.dr, q.dw, L2, q.ll, by rw [w4]; exact upd_same, by rw [ex2]; exact a6 _ _ (s4 _ _ (s3 _ _ S.run.rds)), by rw [w1]; exact a6 _ _ (s4 _ _ (s3 _ _ S.run.wrs)), by rw [w2]; exact a6 _ _ e4, by rw [w3]; exact a6 _ _ (s4 _ _ (s3 _ _ S.run.ltr))⟩
end
end K13

set_option linter.all false
set_option maxHeartbeats 2000000
/-! == of lists whose items are compared one by one, equal or not; != of tuples that are equal, by nested lists, dicts and data -/
namespace YF
open PySem PySem.SeqAt L2
inductive Cm (K : PySem.W.Frag) (H : Hp) : V → V → Bool → Prop
  | flat {x y : V} : flatV x = true → flatV y = true → Cm K H x y (L2.eqV x y)
  | deep {x y : V} : EqV K H 9 x y → Cm K H x y true
  | data {a b : Addr} {d e : PyData} : Dp K H (.ref a) d → Dp K H (.ref b) e → d.canLay0 = true → e.canLay0 = true → d.depth ≤ 9 → Cm K H (.ref a) (.ref b) (PyData.eqv d e)
  | dict {a b : Addr} {ks ls : List (Key × V)} : H a = some (.dK ks) → H b = some (.dK ls) → ks.length ≠ ls.length → Cm K H (.ref a) (.ref b) false
section
variable {X : Cx} {pins : List (Addr × Obj)} {σ : L2.St} {H : Hp} {s : Shared}
theorem cm_run (I : Inv X pins σ H s) (A : Around) (hu : A.units + 32 < cLine) {x y : V} {b : Bool} (h : Cm X.K H x y b) {v u : Value} (rx : RelV x v) (ry : RelV y u) : SeqAt.EqP X.prog X.w A s v u b := by
  cases h with
  | flat fx fy => exact (eqAt_V rx ry fx fy).eqP
  | deep h => exact eqV_run I 9 A (by omega) _ _ _ _ h rx ry
  | @data a c d e hd he cd ce dd =>
    obtain ⟨as, r1⟩ := Dp.reads I d _ _ hd rx
    obtain ⟨bs, r2⟩ := Dp.reads I e _ _ he ry
    exact (SeqAt.eqAt_reads d e A s _ _ as bs r1 r2 cd ce (by have : min d.depth e.depth ≤ d.depth := Nat.min_le_left _ _; omega)).eqP
  | @dict a c ks ls ha hb hl =>
    cases (show v = Value.ref a from rx)
    cases (show u = Value.ref c from ry)
    have ne : a ≠ c := by
      rintro rfl
      rw [ha] at hb
      cases hb
      exact hl rfl
    obtain ⟨_, ya, va, ra, da⟩ := (show ObjOk X.prog X.w H s.heap a (.dK ks) from I.hok a _ ha)
    obtain ⟨_, yb, vb, rb, db⟩ := (show ObjOk X.prog X.w H s.heap c (.dK ls) from I.hok c _ hb)
    have e : va.length ≠ vb.length := by
      rw [← ra.length, ← rb.length]
      exact hl
    refine SeqAt.eqP_refs ne fun E Q q => PySem.W.rcP_dicts (knd := mixKind X.prog X.w) (r := true) ya yb da db (by omega) (fun z => absurd z e) E Q ?_
    rw [show (va.length == vb.length && true) = false from by simp [e]]
    exact q
end
inductive CmL (K : PySem.W.Frag) (H : Hp) : List V → List V → List Bool → Prop
  | nil : CmL K H [] [] []
  | cons {x y : V} {b : Bool} {xs ys : List V} {bs : List Bool} : Cm K H x y b → CmL K H xs ys bs → CmL K H (x :: xs) (y :: ys) (b :: bs)
theorem CmL.len {K : PySem.W.Frag} {H : Hp} {xs ys : List V} {bs : List Bool} (h : CmL K H xs ys bs) : xs.length = ys.length ∧ xs.length = bs.length := by
  induction h with
  | nil => exact ⟨rfl, rfl⟩
  | cons _ _ ih => exact ⟨congrArg (· + 1) ih.1, congrArg (· + 1) ih.2⟩
theorem cmL_run {K : PySem.W.Frag} {H : Hp} {E : Value → Value → Bool → Prop} (ih : ∀ x y b v u, Cm K H x y b → RelV x v → RelV y u → E v u b) {xs ys : List V} {bs : List Bool} (hp : CmL K H xs ys bs) :
    ∀ {us ws : List Value}, Vals xs us → Vals ys ws → ∀ j (h1 : j < us.length) (h2 : j < ws.length), E us[j] ws[j] (bs.getD j true) := by
  induction hp with
  | nil =>
    intro us ws r1 r2 j h1 h2
    cases r1
    exact absurd h1 (Nat.not_lt_zero j)
  | cons h _ k =>
    intro us ws r1 r2 j h1 h2
    cases r1 with
    | cons a1 b1 =>
      cases r2 with
      | cons a2 b2 =>
        cases j with
        | zero => exact ih _ _ _ _ _ h a1 a2
        | succ j => exact k b1 b2 j (Nat.lt_of_succ_lt_succ h1) (Nat.lt_of_succ_lt_succ h2)
theorem all_getD : ∀ bs : List Bool, (List.range bs.length).all (fun j => bs.getD j true) = bs.all id
  | [] => rfl
  | b :: bs => by
    rw [List.length_cons, List.range_succ_eq_map, List.all_cons, List.all_map, List.all_cons]
    exact congrArg (b && ·) (all_getD bs)
section
variable {X : Cx}
/-- a == b, two lists of as many items -/
def rEqW (K : PySem.W.Frag) : R2 := fun x y H Q => ∃ a b xs ys bs, x = .ref a ∧ y = .ref b ∧ SqL K H a xs ∧ SqL K H b ys ∧ CmL K H xs ys bs ∧ Q (.bl (bs.all id)) H
theorem op_eqW (hu : X.A.units + 64 < cLine) : OpR X (compareOp .Eq) (rEqW X.K) := by
  intro pins s σ H x y v u Q I rx ry h
  obtain ⟨a, b, xs, ys, bs, rfl, rfl, ha, hb, hp, q⟩ := h
  cases (show v = Value.ref a from rx)
  cases (show u = Value.ref b from ry)
  obtain ⟨us, r1, p1, _⟩ := I.list ha
  obtain ⟨ws, r2, p2, _⟩ := I.list hb
  have hsz : us.toArray.size = ws.toArray.size := by
    rw [List.size_toArray, List.size_toArray, ← r1.length, ← r2.length]
    exact hp.len.1
  show wpAny _ _ (richCompare .Eq (Value.ref a) (Value.ref b)) _ _ _
  refine SeqAt.rcP_lists (e := fun j => bs.getD j true) p1.isList p2.isList hsz (by omega) (fun j h1 h2 => ?_) _ _ ?_
  · have k := cmL_run (E := fun v u c => SeqAt.EqP X.prog X.w X.A.in1 s v u c) (fun x y c v u h rx ry => cm_run I X.A.in1 (by show X.A.units + 1 + 32 < cLine; omega) h rx ry) hp r1 r2 j (by simpa using h1) (by simpa using h2)
    simpa using k
  · have e : us.toArray.size = bs.length := by
      rw [List.size_toArray, ← r1.length]
      exact hp.len.2
    rw [e, all_getD]
    exact ⟨.bl _, H, I, rfl, q⟩
/-- a != b, two tuples that are equal -/
def rNeW (K : PySem.W.Frag) : R2 := fun x y H Q => ∃ a b xs ys, x = .ref a ∧ y = .ref b ∧ SqT K H a xs ∧ SqT K H b ys ∧ Paired (fun x y => Cm K H x y true) xs ys ∧ Q (.bl false) H
theorem op_neW (hu : X.A.units + 64 < cLine) : OpR X (compareOp .NotEq) (rNeW X.K) := by
  intro pins s σ H x y v u Q I rx ry h
  obtain ⟨a, b, xs, ys, rfl, rfl, ha, hb, hp, q⟩ := h
  cases (show v = Value.ref a from rx)
  cases (show u = Value.ref b from ry)
  obtain ⟨us, r1, p1, _⟩ := I.tuple ha
  obtain ⟨ws, r2, p2, _⟩ := I.tuple hb
  have hsz : us.toArray.size = ws.toArray.size := by
    rw [List.size_toArray, List.size_toArray, ← r1.length, ← r2.length]
    exact Paired.length hp
  show wpAny _ _ (richCompare .NotEq (Value.ref a) (Value.ref b)) _ _ _
  exact ne_tuples (show s.heap.IsTuple a us.toArray from p1) (show s.heap.IsTuple b ws.toArray from p2) hsz (by omega) (fun p hm => zip_run (E := fun v u => EqP X.prog X.w X.A.in1 s v u true) (fun x y v u h r r' => cm_run I X.A.in1 (by show X.A.units + 1 + 32 < cLine; omega) h r r') hp r1 r2 p (by simpa using hm)) ⟨.bl false, H, I, rfl, q⟩
end
end YF

namespace K13
open PySem L2 YF YG NdefX
open C8 (tCut)
section
variable {P : Program} {w : World} {K : PySem.W.Frag} {mg : Str → Option Value} {base : Heap} {A : Adr}
def spPartsL (A : Adr) : Sp := fun vs H Q _ => ∃ (x dx a b f l : Addr) (kd : Str) (rv : V), vs = [.ref x] ∧ H x = some (.ins A.a_Outcome dx (fldO kd a b f l rv)) ∧ ∀ q, H q = none → Q (.ref q) (upd H q (.tup [.str kd, .ref a, .ref b, .ref f, .ref l, rv]))
theorem ok_law_parts (T : Txt K mg A) : FnOk P w K mg base CX0 1 A.a__law_parts A.d__law_parts ["outcome"] (spPartsL A) := by
  refine T.F__law_parts.ok sc_law_parts (fun vs H Q E ⟨_, _, _, _, _, _, _, _, e, _⟩ => by rw [e]; rfl) (fun cdv A' outer s0 H vs Q E hr h => ?_)
  obtain ⟨x, dx, a, b, f, l, kd, rv, rfl, hx, k⟩ := h
  refine ⟨_, pss_one (ps_ret (pe_tup (pa_cons (pe_fld (pv 0) rfl) (pa_cons (pe_fld (pv 0) rfl) (pa_cons (pe_fld (pv 0) rfl) (pa_cons (pe_fld (pv 0) rfl) (pa_cons (pe_fld (pv 0) rfl) (pa_cons (pe_fld (pv 0) rfl) pa_nil)))))))), ?_⟩
  refine ret_un (tup_un ((ta_cons (te_fld (te_var rfl) hx T.cl_Outcome T.no_Outcome_kind rfl) (ta_cons (te_fld (te_var rfl) hx T.cl_Outcome T.no_Outcome_reads rfl) (ta_cons (te_fld (te_var rfl) hx T.cl_Outcome T.no_Outcome_writes rfl) (ta_cons (te_fld (te_var rfl) hx T.cl_Outcome T.no_Outcome_finals rfl) (ta_cons (te_fld (te_var rfl) hx T.cl_Outcome T.no_Outcome_later rfl) (ta_cons (te_fld (te_var rfl) hx T.cl_Outcome T.no_Outcome_reason rfl) ta_nil)))))) _ ⟨(show 6 ≤ sizeLine by decide), k⟩))
/-- one thing otherwise -/
inductive Othr (o : OutC) : OutC → Prop
  | kd : Othr o { o with kd := o.kd ++ "x" }
  | rds : Othr o { o with rds := putK o.rds (.inl (99 : Int) : Key) (.int 1) }
  | wrs : Othr o { o with wrs := putK o.wrs (.inl (99 : Int) : Key) (.int 1) }
  | fin : Othr o { o with fin := o.fin ++ [.int 1] }
  | ltr : Othr o { o with ltr := o.ltr ++ [.int 1] }
theorem cut_noI {σ : L2.St} {H : Hp} {te : TE} {i j : Int} {tu rest : TS} {D : Ends} (ha : Te te σ H (.int i)) (h : i ≠ j) (k : rest D σ H) : tCut (tIfS (tTest (tOp rEq te (tC (.int j)))) tu tNext) rest D σ H :=
  ⟨fun σ' H' => σ' = σ ∧ H' = H, if_go (tt_test (te_eq ha te_c rfl)) (fun z => absurd (by rw [deq_int] at z; simpa using z) h) fun _ => ⟨rfl, rfl⟩, fun σ' H' ⟨e1, e2⟩ => by rw [e1, e2]; exact k⟩
theorem cut_yesI {σ : L2.St} {H : Hp} {te : TE} {i : Int} {tu rest : TS} {D : Ends} (Mid : L2.St → Hp → Prop) (ha : Te te σ H (.int i)) (h1 : tu { D with nx := Mid } σ H) (k : ∀ σ' H', Mid σ' H' → rest D σ' H') : tCut (tIfS (tTest (tOp rEq te (tC (.int i)))) tu tNext) rest D σ H :=
  ⟨Mid, if_go (tt_test (te_eq ha te_c rfl)) (fun _ => h1) fun z => (by rw [deq_int] at z; exact absurd rfl (of_decide_eq_false z)), k⟩
theorem asg1_un {σ : L2.St} {H : Hp} {te : TE} {i : Nat} {D : Ends} (h : te σ H fun v H' => D.nx (σ.set i (some v)) H') : tAsg te (gName i) D σ H := h
def spOther (A : Adr) : Sp := fun vs H Q _ => ∃ (p t a b f l : Addr) (o : OutC), vs = [.ref p, .ref t] ∧ Row H p ∧ f ≠ p ∧ l ≠ p ∧ H t = some (.tup [.str o.kd, .ref a, .ref b, .ref f, .ref l, o.rv]) ∧ H a = some (.dK o.rds) ∧ H b = some (.dK o.wrs) ∧ H f = some (.lst o.fin) ∧ H l = some (.lst o.ltr) ∧ o.kd.length ≤ 100 ∧ o.rds.length ≤ 1000 ∧ o.wrs.length ≤ 1000 ∧ o.fin.length ≤ 1000 ∧ o.ltr.length ≤ 100000 ∧
  ∀ x H' o', Stay p H H' → Row H' p → Othr o o' → OutAt A H' x o' → Q (.ref x) H'
theorem ok_law_other (T : Txt K mg A) : FnOk P w K mg base CX0 3 A.a__law_other A.d__law_other ["row", "parts"] (spOther A) := by
  refine T.F__law_other.ok (k := 2) sc_law_other (fun vs H Q E ⟨_, _, _, _, _, _, _, e, _⟩ => by rw [e]; rfl) (fun cdv A' outer s0 H vs Q E hr h => ?_)
  obtain ⟨p, t, a, b, f, l, o, rfl, hp, nfp, nlp, ht, ha, hb, hf, hl, b1, b2, b3, b4, b5, k⟩ := h
  refine ⟨_, pss_cons (ps_asg (pv 1) (pg_tup (by rfl) (pgs_cons (pg_name (i := 2) sc_law_other.nd rfl (Or.inl rfl)) (pgs_cons (pg_name (i := 3) sc_law_other.nd rfl (Or.inl rfl)) (pgs_cons (pg_name (i := 4) sc_law_other.nd rfl (Or.inl rfl)) (pgs_cons (pg_name (i := 5) sc_law_other.nd rfl (Or.inl rfl)) (pgs_cons (pg_name (i := 6) sc_law_other.nd rfl (Or.inl rfl)) (pgs_cons (pg_name (i := 7) sc_law_other.nd rfl (Or.inl rfl)) pgs_nil))))))))
  (pss_cons (ps_set (i := 8) sc_law_other.nd rfl (Or.inl rfl) (pe_call (ok_law_take T) (hr.mono (by decide)) rfl T.g__law_take T.F__law_take.kp T.b__law_take .nil pass0 (pa_cons (pv 0) (pa_cons (pe_int) pa_nil))))
  (C8.pss_cut (ps_if (pt_cmpR op_eq (pv 8) (pe_int) (nomark _))
  (pss_one (ps_set (i := 2) sc_law_other.nd rfl (Or.inl rfl) (pe_op op_add_str (pv 2) (pe_str))))
  (pss_nil))
  (C8.pss_cut (ps_if (pt_cmpR op_eq (pv 8) (pe_int) (nomark _))
  (pss_cons (ps_set (i := 3) sc_law_other.nd rfl (Or.inl rfl) (pe_callTy call_dictD (by rfl) T.n_dict (by decide +kernel) (pa_cons (pv 3) pa_nil)))
  (pss_one (ps_dput (hu_of hr) (pv 3) (pe_int) (pe_int) rfl)))
  (pss_nil))
  (C8.pss_cut (ps_if (pt_cmpR op_eq (pv 8) (pe_int) (nomark _))
  (pss_cons (ps_set (i := 4) sc_law_other.nd rfl (Or.inl rfl) (pe_callTy call_dictD (by rfl) T.n_dict (by decide +kernel) (pa_cons (pv 4) pa_nil)))
  (pss_one (ps_dput (hu_of hr) (pv 4) (pe_int) (pe_int) rfl)))
  (pss_nil))
  (C8.pss_cut (ps_if (pt_cmpR op_eq (pv 8) (pe_int) (nomark _))
  (pss_one (ps_set (i := 5) sc_law_other.nd rfl (Or.inl rfl) (pe_op op_cat (pv 5) (pe_lst (pa_cons (pe_int) pa_nil)))))
  (pss_nil))
  (C8.pss_cut (ps_if (pt_cmpR op_eq (pv 8) (pe_int) (nomark _))
  (pss_one (ps_set (i := 6) sc_law_other.nd rfl (Or.inl rfl) (pe_op op_cat (pv 6) (pe_lst (pa_cons (pe_int) pa_nil)))))
  (pss_nil))
  (pss_one (ps_ret (pe_makeK T.mk_Outcome (ok_Outcome___init__ T) (hr.mono (by decide)) (by exact rfl) T.g_Outcome (kb5 T.K_Outcome___init__).choose_spec pass0 (pa_cons (pv 2) pa_nil) (pk_cons (pv 3) (pk_cons (pv 4) (pk_cons (pv 5) (pk_cons (pv 6) (pk_cons (pv 7) pk_nil)))))))))))))), ?_⟩
  have no : ∀ {c : Addr} {u : HO}, H c = some u → (∀ xs, u ≠ .lst xs) → c ≠ p := fun {c u} h n z => by
    obtain ⟨ns, e⟩ := hp
    rw [z, e] at h
    exact n _ (Option.some.inj h).symm
  refine ⟨_, rfl, t, _, rfl, SqT.of ht, rfl, _, _, rfl, _, _, rfl, _, _, rfl, _, _, rfl, _, _, rfl, _, _, rfl, rfl, ?_⟩
  refine set_sl (σ' := [some (.ref p), some (.ref t), some (.str o.kd), some (.ref a), some (.ref b), some (.ref f), some (.ref l), some o.rv, none]) rfl ?_
  refine go_take (m := 5) (ta_cons (te_var rfl) (ta_cons te_c ta_nil)) hp fun c H1 c0 c1 s1 r1 => ?_
  dsimp only [gName]
  refine set_sl (σ' := [some (.ref p), some (.ref t), some (.str o.kd), some (.ref a), some (.ref b), some (.ref f), some (.ref l), some o.rv, some (.int c)]) rfl ?_
  have a1 : H1 a = some (.dK o.rds) := s1.all _ _ (no ha fun _ z => by cases z) ha
  have a2 : H1 b = some (.dK o.wrs) := s1.all _ _ (no hb fun _ z => by cases z) hb
  have a3 : H1 f = some (.lst o.fin) := s1.all _ _ nfp hf
  have a4 : H1 l = some (.lst o.ltr) := s1.all _ _ nlp hl
  have rw1 : ∀ {G : Hp}, Same H1 G → Row G p := fun s => by
    obtain ⟨ns, e⟩ := r1
    exact ⟨ns, s _ _ e⟩
  have rw2 : ∀ {G G2 : Hp}, Same H1 G → Same G G2 → Stay p H G2 := fun s s' => s1.trans (.of (s.trans s'))
  rcases (show c = 0 ∨ c = 1 ∨ c = 2 ∨ c = 3 ∨ c = 4 by omega) with rfl | rfl | rfl | rfl | rfl
  · refine cut_yesI (fun σ' H' => σ' = [some (.ref p), some (.ref t), some (.str (o.kd ++ "x")), some (.ref a), some (.ref b), some (.ref f), some (.ref l), some o.rv, some (.int 0)] ∧ H' = H1) (te_var rfl) ?_ ?_
    · refine asg1_un (op_un (Te.go (te_var rfl) (Te.go te_c ?_)))
      exact ⟨o.kd, "x", rfl, rfl, by rw [sizeLine_eq]; show o.kd.length + 1 ≤ _; omega, rfl, rfl⟩
    · rintro σ' G ⟨rfl, rfl⟩
      refine cut_noI (te_var rfl) (by decide) (cut_noI (te_var rfl) (by decide) (cut_noI (te_var rfl) (by decide) (cut_noI (te_var rfl) (by decide) ?_)))
      refine ret_un (makeK_un (cons_un (Te.go (te_var rfl) (nil_un (cons_un (Te.go (te_var rfl) (cons_un (Te.go (te_var rfl) (cons_un (Te.go (te_var rfl) (cons_un (Te.go (te_var rfl) (cons_un (Te.go (te_var rfl) (nil_un ⟨rfl, rfl, mkO_go (fun _ => rfl) a1 a2 a3 a4 fun x H3 s3 hx O => ?_⟩)))))))))))))))
      exact k x H3 _ (rw2 (Same.refl _) s3) (rw1 s3) .kd (O.mono fun c u h => (nw_some h).2)
  · refine cut_noI (te_var rfl) (by decide) ?_
    refine cut_yesI (fun σ' H' => ∃ q, σ' = [some (.ref p), some (.ref t), some (.str o.kd), some (.ref q), some (.ref b), some (.ref f), some (.ref l), some o.rv, some (.int 1)] ∧ Same H1 H' ∧ H' q = some (.dK (putK o.rds (.inl (99 : Int) : Key) (.int 1)))) (te_var rfl) ?_ ?_
    · refine asg_un (cb_un ((ta_cons (te_var rfl) ta_nil) _ ⟨a, o.rds, rfl, .inl a1, fun q hq => ?_⟩))
      try dsimp only [gName]
      refine set_sl (σ' := [some (.ref p), some (.ref t), some (.str o.kd), some (.ref q), some (.ref b), some (.ref f), some (.ref l), some o.rv, some (.int 1)]) rfl ?_
      exact (te_c : Te _ _ _ (.int 1)) _ ((te_var rfl : Te _ _ _ (.ref q)) _ ((te_c : Te _ _ _ (.int 99)) _ ⟨q, _, rfl, DPut.k (k := (.inl (99 : Int) : Key)) upd_same (by rw [sizeLine_eq]; omega), q, rfl, fun c u e => by rw [upd_ne (ne_of_none e hq), upd_ne (ne_of_none e hq)]; exact e, upd_same⟩))
    · rintro σ' G ⟨q, rfl, s2, e2⟩
      refine cut_noI (te_var rfl) (by decide) (cut_noI (te_var rfl) (by decide) (cut_noI (te_var rfl) (by decide) ?_))
      refine ret_un (makeK_un (cons_un (Te.go (te_var rfl) (nil_un (cons_un (Te.go (te_var rfl) (cons_un (Te.go (te_var rfl) (cons_un (Te.go (te_var rfl) (cons_un (Te.go (te_var rfl) (cons_un (Te.go (te_var rfl) (nil_un ⟨rfl, rfl, mkO_go (fun _ => rfl) e2 (s2 _ _ a2) (s2 _ _ a3) (s2 _ _ a4) fun x H3 s3 hx O => ?_⟩)))))))))))))))
      exact k x H3 _ (rw2 s2 s3) (rw1 (s2.trans s3)) .rds (O.mono fun c u h => (nw_some h).2)
  · refine cut_noI (te_var rfl) (by decide) (cut_noI (te_var rfl) (by decide) ?_)
    refine cut_yesI (fun σ' H' => ∃ q, σ' = [some (.ref p), some (.ref t), some (.str o.kd), some (.ref a), some (.ref q), some (.ref f), some (.ref l), some o.rv, some (.int 2)] ∧ Same H1 H' ∧ H' q = some (.dK (putK o.wrs (.inl (99 : Int) : Key) (.int 1)))) (te_var rfl) ?_ ?_
    · refine asg_un (cb_un ((ta_cons (te_var rfl) ta_nil) _ ⟨b, o.wrs, rfl, .inl a2, fun q hq => ?_⟩))
      try dsimp only [gName]
      refine set_sl (σ' := [some (.ref p), some (.ref t), some (.str o.kd), some (.ref a), some (.ref q), some (.ref f), some (.ref l), some o.rv, some (.int 2)]) rfl ?_
      exact (te_c : Te _ _ _ (.int 1)) _ ((te_var rfl : Te _ _ _ (.ref q)) _ ((te_c : Te _ _ _ (.int 99)) _ ⟨q, _, rfl, DPut.k (k := (.inl (99 : Int) : Key)) upd_same (by rw [sizeLine_eq]; omega), q, rfl, fun c u e => by rw [upd_ne (ne_of_none e hq), upd_ne (ne_of_none e hq)]; exact e, upd_same⟩))
    · rintro σ' G ⟨q, rfl, s2, e2⟩
      refine cut_noI (te_var rfl) (by decide) (cut_noI (te_var rfl) (by decide) ?_)
      refine ret_un (makeK_un (cons_un (Te.go (te_var rfl) (nil_un (cons_un (Te.go (te_var rfl) (cons_un (Te.go (te_var rfl) (cons_un (Te.go (te_var rfl) (cons_un (Te.go (te_var rfl) (cons_un (Te.go (te_var rfl) (nil_un ⟨rfl, rfl, mkO_go (fun _ => rfl) (s2 _ _ a1) e2 (s2 _ _ a3) (s2 _ _ a4) fun x H3 s3 hx O => ?_⟩)))))))))))))))
      exact k x H3 _ (rw2 s2 s3) (rw1 (s2.trans s3)) .wrs (O.mono fun c u h => (nw_some h).2)
  · refine cut_noI (te_var rfl) (by decide) (cut_noI (te_var rfl) (by decide) (cut_noI (te_var rfl) (by decide) ?_))
    refine cut_yesI (fun σ' H' => ∃ q, σ' = [some (.ref p), some (.ref t), some (.str o.kd), some (.ref a), some (.ref b), some (.ref q), some (.ref l), some o.rv, some (.int 3)] ∧ Same H1 H' ∧ H' q = some (.lst (o.fin ++ [.int 1]))) (te_var rfl) ?_ ?_
    · refine (te_var rfl : Te _ _ _ (.ref f)) _ ⟨show 1 ≤ sizeLine by decide, fun z hz => ⟨f, z, _, _, rfl, rfl, Same.upd hz _ _ a3, upd_same, by rw [sizeLine_eq]; show o.fin.length + 1 ≤ _; omega, fun q hq => ?_⟩⟩
      exact ⟨q, rfl, (Same.upd hz).trans (Same.upd hq), upd_same⟩
    · rintro σ' G ⟨q, rfl, s2, e2⟩
      refine cut_noI (te_var rfl) (by decide) ?_
      refine ret_un (makeK_un (cons_un (Te.go (te_var rfl) (nil_un (cons_un (Te.go (te_var rfl) (cons_un (Te.go (te_var rfl) (cons_un (Te.go (te_var rfl) (cons_un (Te.go (te_var rfl) (cons_un (Te.go (te_var rfl) (nil_un ⟨rfl, rfl, mkO_go (fun _ => rfl) (s2 _ _ a1) (s2 _ _ a2) e2 (s2 _ _ a4) fun x H3 s3 hx O => ?_⟩)))))))))))))))
      exact k x H3 _ (rw2 s2 s3) (rw1 (s2.trans s3)) .fin (O.mono fun c u h => (nw_some h).2)
  · refine cut_noI (te_var rfl) (by decide) (cut_noI (te_var rfl) (by decide) (cut_noI (te_var rfl) (by decide) (cut_noI (te_var rfl) (by decide) ?_)))
    refine cut_yesI (fun σ' H' => ∃ q, σ' = [some (.ref p), some (.ref t), some (.str o.kd), some (.ref a), some (.ref b), some (.ref f), some (.ref q), some o.rv, some (.int 4)] ∧ Same H1 H' ∧ H' q = some (.lst (o.ltr ++ [.int 1]))) (te_var rfl) ?_ ?_
    · refine (te_var rfl : Te _ _ _ (.ref l)) _ ⟨show 1 ≤ sizeLine by decide, fun z hz => ⟨l, z, _, _, rfl, rfl, Same.upd hz _ _ a4, upd_same, by rw [sizeLine_eq]; show o.ltr.length + 1 ≤ _; omega, fun q hq => ?_⟩⟩
      exact ⟨q, rfl, (Same.upd hz).trans (Same.upd hq), upd_same⟩
    · rintro σ' G ⟨q, rfl, s2, e2⟩
      refine ret_un (makeK_un (cons_un (Te.go (te_var rfl) (nil_un (cons_un (Te.go (te_var rfl) (cons_un (Te.go (te_var rfl) (cons_un (Te.go (te_var rfl) (cons_un (Te.go (te_var rfl) (cons_un (Te.go (te_var rfl) (nil_un ⟨rfl, rfl, mkO_go (fun _ => rfl) (s2 _ _ a1) (s2 _ _ a2) (s2 _ _ a3) e2 fun x H3 s3 hx O => ?_⟩)))))))))))))))
      exact k x H3 _ (rw2 s2 s3) (rw1 (s2.trans s3)) .ltr (O.mono fun c u h => (nw_some h).2)
end
end K13

namespace K13
open PySem L2 YF YG NdefX
/-! ### outcomes that differ in one thing -/
theorem more_ints : ∀ l : List Int, PyData.eqvAll (l.map PyData.int) ((l ++ [1]).map PyData.int) = false
  | [] => by simp [PyData.eqvAll]
  | i :: r => by
    rw [List.map_cons, List.cons_append, List.map_cons, PyData.eqvAll, more_ints r]
    simp
theorem cm_more {K : PySem.W.Frag} {H : Hp} {a b : Addr} {l : List Int} (ha : H a = some (.lst (l.map V.int))) (hb : H b = some (.lst (l.map V.int ++ [.int 1]))) : Cm K H (.ref a) (.ref b) false := by
  have hb : H b = some (.lst ((l ++ [1]).map V.int)) := by
    rw [hb, List.map_append]
    rfl
  have h := Cm.data (dpL l ha) (dpL (K := K) (l ++ [1]) hb) (by simp [PyData.canLay0, canLay_ints]) (by simp only [PyData.canLay0]; exact canLay_ints _) (by simp [PyData.depth, depth_ints])
  rw [PyData.eqv, more_ints l] at h
  exact h
theorem put99 {N : Nat} {l : Kv} {v : V} (h : NumD N l) (hN : N ≤ 99) : (putK l (.inl (99 : Int) : Key) v).length = l.length + 1 := by
  obtain ⟨js, rfl, nd, hq⟩ := h
  unfold putK
  rw [if_neg, List.length_append]
  · rfl
  · intro z
    obtain ⟨q, hm, e⟩ := List.any_eq_true.mp z
    obtain ⟨r, hr, rfl⟩ := List.mem_map.mp hm
    have e : (.inl (r.1 : Int) : Key) = .inl (99 : Int) := of_decide_eq_true e
    have e2 : (r.1 : Int) = 99 := Sum.inl.inj e
    have := (hq r hr).1
    omega
/-- what an outcome of the program holds -/
structure OutI (o : OutC) : Prop where
  flat : FlatO o
  rds : NumD 6 o.rds
  wrs : NumD 6 o.wrs
  fin : ∃ l : List Int, o.fin = l.map V.int
  ltr : ∃ l : List Int, o.ltr = l.map V.int
section
variable {P : Program} {w : World} {K : PySem.W.Frag} {mg : Str → Option Value} {base : Heap} {A : Adr}
def spSame2 (A : Adr) : Sp := fun vs H Q _ => ∃ (x y : Addr) (o o2 : OutC) (c : Bool), vs = [.ref x, .ref y] ∧ OutAt A H x o ∧ OutAt A H y o2 ∧ OutI o ∧ ((c = true ∧ o2 = o) ∨ (c = false ∧ Othr o o2)) ∧ ∀ H', Same H H' → Q (.bl c) H'
theorem ok_same_outcome2 (T : Txt K mg A) : FnOk P w K mg base CX0 2 A.a_same_outcome A.d_same_outcome ["outcome", "other"] (spSame2 A) := by
  refine T.F_same_outcome.ok (k := 1) sc_same_outcome (fun vs H Q E ⟨_, _, _, _, _, e, _⟩ => by rw [e]; rfl) (fun cdv A' outer s0 H vs Q E hr h => ?_)
  obtain ⟨x, y, o, o2, c, rfl, ⟨dx, a, b, f, l, hx, h1, h2, h3, h4⟩, ⟨dy, a', b', f', l', hy, g1, g2, g3, g4⟩, OI, hc, k⟩ := h
  refine ⟨_, pss_one (ps_ret (pe_cmpR (op_eqW hr.units) (pe_call (ok_all_of T) (hr.mono (by decide)) rfl T.g__all_of T.F__all_of.kp T.b__all_of .nil pass0 (pa_cons (pv 0) pa_nil)) (pe_call (ok_all_of T) (hr.mono (by decide)) rfl T.g__all_of T.F__all_of.kp T.b__all_of .nil pass0 (pa_cons (pv 1) pa_nil)) (nomark _))), ?_⟩
  refine ret_un (op_un (call_un ((ta_cons (te_var rfl) ta_nil) _ ⟨x, dx, a, b, f, l, o.kd, o.rv, rfl, hx, fun p hp => ?_⟩)))
  have s1 : Same H (upd H p (.lst [.str o.kd, .ref a, .ref b, .ref f, .ref l, o.rv])) := Same.upd hp
  refine call_un ((ta_cons (te_var rfl) ta_nil) _ ⟨y, dy, a', b', f', l', o2.kd, o2.rv, rfl, s1 _ _ hy, fun q hq => ?_⟩)
  have s2 := s1.trans (Same.upd (o := .lst [.str o2.kd, .ref a', .ref b', .ref f', .ref l', o2.rv]) hq)
  have ep : (upd (upd H p (.lst [.str o.kd, .ref a, .ref b, .ref f, .ref l, o.rv])) q (.lst [.str o2.kd, .ref a', .ref b', .ref f', .ref l', o2.rv])) p = some (.lst [.str o.kd, .ref a, .ref b, .ref f, .ref l, o.rv]) := Same.upd hq _ _ upd_same
  have eq : (upd (upd H p (.lst [.str o.kd, .ref a, .ref b, .ref f, .ref l, o.rv])) q (.lst [.str o2.kd, .ref a', .ref b', .ref f', .ref l', o2.rv])) q = some (.lst [.str o2.kd, .ref a', .ref b', .ref f', .ref l', o2.rv]) := upd_same
  generalize upd (upd H p (.lst [.str o.kd, .ref a, .ref b, .ref f, .ref l, o.rv])) q (.lst [.str o2.kd, .ref a', .ref b', .ref f', .ref l', o2.rv]) = G at s2 ep eq ⊢
  have h1 := s2 _ _ h1
  have h2 := s2 _ _ h2
  have h3 := s2 _ _ h3
  have h4 := s2 _ _ h4
  have g1 := s2 _ _ g1
  have g2 := s2 _ _ g2
  have g3 := s2 _ _ g3
  have g4 := s2 _ _ g4
  have fl := OI.flat
  have dk : ∀ {u v : Addr} {kv : Kv}, G u = some (.dK kv) → G v = some (.dK kv) → (∀ p ∈ kv, valV kv p.1 = some p.2 ∧ flatB p.2 = true) → Cm K G (.ref u) (.ref v) true :=
    fun {u v kv} hu hv ok => .deep (.inr (.inr (.inr ⟨u, v, kv, kv, rfl, rfl, hu, hv, rfl, fun p hp => ⟨p.2, (ok p hp).1, .inl ⟨rfl, (ok p hp).2⟩⟩⟩)))
  have lk : ∀ {u v : Addr} {xs : List V}, G u = some (.lst xs) → G v = some (.lst xs) → (∀ x ∈ xs, flatB x = true) → Cm K G (.ref u) (.ref v) true :=
    fun {u v xs} hu hv ok => .deep (.inr (.inr (.inl ⟨u, v, xs, xs, rfl, rfl, SqL.of hu, SqL.of hv, eq_list ok⟩)))
  have fk : ∀ {v : V}, flatB v = true → Cm K G v v true := fun h => .deep (.inl ⟨rfl, h⟩)
  have fin : ∀ {bs : List Bool}, CmL K G [.str o.kd, .ref a, .ref b, .ref f, .ref l, o.rv] [.str o2.kd, .ref a', .ref b', .ref f', .ref l', o2.rv] bs → bs.all id = c → rEqW K (.ref p) (.ref q) G Q := fun {bs} h e => ⟨p, q, _, _, bs, rfl, rfl, SqL.of ep, SqL.of eq, h, by rw [e]; exact k _ s2⟩
  rcases hc with ⟨rfl, rfl⟩ | ⟨rfl, hc⟩
  · exact fin (bs := [true, true, true, true, true, true]) (.cons (fk rfl) (.cons (dk h1 g1 fl.rds) (.cons (dk h2 g2 fl.wrs) (.cons (lk h3 g3 fl.fin) (.cons (lk h4 g4 fl.ltr) (.cons (fk fl.rv) .nil)))))) rfl
  · cases hc with
    | kd =>
      have e : L2.eqV (.str o.kd) (.str (o.kd ++ "x")) = false := by
        show (o.kd == o.kd ++ "x") = false
        refine beq_eq_false_iff_ne.mpr fun z => ?_
        have z2 := congrArg Str.length z
        rw [PySem.Str.length_append] at z2
        have : ("x" : Str).length = 1 := rfl
        omega
      have c0 : Cm K G (.str o.kd) (.str (o.kd ++ "x")) false := by
        have := Cm.flat (K := K) (H := G) (x := .str o.kd) (y := .str (o.kd ++ "x")) rfl rfl
        rw [e] at this
        exact this
      exact fin (bs := [false, true, true, true, true, true]) (.cons c0 (.cons (dk h1 g1 fl.rds) (.cons (dk h2 g2 fl.wrs) (.cons (lk h3 g3 fl.fin) (.cons (lk h4 g4 fl.ltr) (.cons (fk fl.rv) .nil)))))) rfl
    | rds => exact fin (bs := [true, false, true, true, true, true]) (.cons (fk rfl) (.cons (.dict h1 g1 (by show o.rds.length ≠ (putK o.rds _ _).length; rw [put99 OI.rds (by decide)]; omega)) (.cons (dk h2 g2 fl.wrs) (.cons (lk h3 g3 fl.fin) (.cons (lk h4 g4 fl.ltr) (.cons (fk fl.rv) .nil)))))) rfl
    | wrs => exact fin (bs := [true, true, false, true, true, true]) (.cons (fk rfl) (.cons (dk h1 g1 fl.rds) (.cons (.dict h2 g2 (by show o.wrs.length ≠ (putK o.wrs _ _).length; rw [put99 OI.wrs (by decide)]; omega)) (.cons (lk h3 g3 fl.fin) (.cons (lk h4 g4 fl.ltr) (.cons (fk fl.rv) .nil)))))) rfl
    | fin =>
      obtain ⟨is, ei⟩ := OI.fin
      have g3 : G f' = some (.lst (o.fin ++ [.int 1])) := g3
      rw [ei] at h3 g3
      exact fin (bs := [true, true, true, false, true, true]) (.cons (fk rfl) (.cons (dk h1 g1 fl.rds) (.cons (dk h2 g2 fl.wrs) (.cons (cm_more h3 g3) (.cons (lk h4 g4 fl.ltr) (.cons (fk fl.rv) .nil)))))) rfl
    | ltr =>
      obtain ⟨is, ei⟩ := OI.ltr
      have g4 : G l' = some (.lst (o.ltr ++ [.int 1])) := g4
      rw [ei] at h4 g4
      exact fin (bs := [true, true, true, true, false, true]) (.cons (fk rfl) (.cons (dk h1 g1 fl.rds) (.cons (dk h2 g2 fl.wrs) (.cons (lk h3 g3 fl.fin) (.cons (cm_more h4 g4) (.cons (fk fl.rv) .nil)))))) rfl
end
end K13

namespace K13
open PySem L2 YF YG NdefX
/-! ### the law -/
section
variable {cs : List Cl} {ms : List Int} {names : List Str}
def KdL (r : Re × RS) : Prop := ∀ w, r.1 = .k w → w.length ≤ 5
theorem val_kl {r : Rz × RS} {f : Int → RS → Re × RS} (k : ∀ i t, KdL (f i t)) : KdL (valE r f) := by
  obtain ⟨a, t⟩ := r
  cases a with
  | ok i => exact k i t
  | er z => exact fun w h => nomatch h
theorem and_kl {r : Re × RS} {f : RS → Re × RS} (h : KdL r) (k : ∀ t, KdL (f t)) : KdL (andB r f) := by
  obtain ⟨a, t⟩ := r
  cases a with
  | k w =>
    show KdL (if w = "done" then f t else (.k w, t))
    by_cases q : w = "done"
    · rw [if_pos q]
      exact k t
    · rw [if_neg q]
      exact h
  | f z => exact fun w h => nomatch h
  | x => exact fun w h => nomatch h
theorem done_kl {s : RS} : KdL (.k "done", s) := fun w h => by
  rw [← Re.k.inj h]
  decide +kernel
theorem loop_kl {f : RS → Re × RS} (k : ∀ t, KdL (f t)) : ∀ (n : Nat) (s : RS), KdL (loopB n f s)
  | 0, s => done_kl
  | n + 1, s => and_kl (k s) fun t => loop_kl k n t
mutual
theorem exS_kl : ∀ (b : Sm) (s : RS), b.ok names → KdL (exS cs ms b s)
  | .set x e, s, _ => val_kl fun i t => done_kl
  | .put nm i e, s, _ => val_kl fun i t => val_kl fun j u => by
    cases place cs nm i 0 with
    | none => exact fun w h => nomatch h
    | some k => exact done_kl
  | .later e, s, _ => val_kl fun i t => by
    by_cases l : t.ltr.length < 100000
    · rw [if_pos l]
      exact done_kl
    · rw [if_neg l]
      exact fun w h => nomatch h
  | .cond c x y, s, ok => val_kl fun i t => by
    by_cases l : i ≠ 0
    · rw [if_pos l]
      exact exB_kl x t ok.2.1
    · rw [if_neg l]
      exact exB_kl y t ok.2.2
  | .rep c x, s, ok => val_kl fun i t => by
    by_cases l : i < 0 ∨ 20 < i
    · rw [if_pos l]
      exact fun w h => nomatch h
    · rw [if_neg l]
      exact loop_kl (fun t => exB_kl x t ok.2) _ _
  | .choose x y, s, ok => by
    have hx := exB_kl x s ok.1
    show KdL (match exB cs ms x s with | (.k w, s1) => if w = "retry" then exB cs ms y { s with rds := s1.rds } else (.k w, s1) | (.f z, s1) => (.f z, s1) | (.x, s1) => (.x, s1))
    cases e : exB cs ms x s with
    | mk a t =>
      rw [e] at hx
      cases a with
      | k w =>
        show KdL (if w = "retry" then exB cs ms y { s with rds := t.rds } else (.k w, t))
        by_cases q : w = "retry"
        · rw [if_pos q]
          exact exB_kl y _ ok.2
        · rw [if_neg q]
          exact hx
      | f z => exact fun w h => nomatch h
      | x => exact fun w h => nomatch h
  | .word w, s, ok => fun z h => by
    have ok : w ∈ (["retry", "undo"] : List Str) := ok
    rw [← Re.k.inj h]
    rcases List.mem_cons.mp ok with e | e
    · rw [e]
      decide +kernel
    · rw [List.mem_singleton.mp e]
      decide +kernel
theorem exB_kl : ∀ (b : Bd) (s : RS), b.ok names → KdL (exB cs ms b s)
  | .nil, s, _ => done_kl
  | .cons a r, s, ok => and_kl (exS_kl a s ok.1) fun t => exB_kl r t ok.2
end
end
theorem numD_len {N : Nat} {l : Kv} (h : NumD N l) : l.length ≤ N := h.len
theorem outI {n m : Int} {ms : List Int} {b : Bd} (O : OkS nm2 cells0 ms (exB cells0 ms b (rs0 (kv2 n m))).2) (nx : (exB cells0 ms b (rs0 (kv2 n m))).1 ≠ .x) (hl : ms.length = 6) (ok : b.ok nm2) : OutI (outB (kv2 n m) (exB cells0 ms b (rs0 (kv2 n m)))) ∧ (outB (kv2 n m) (exB cells0 ms b (rs0 (kv2 n m)))).kd.length ≤ 100 ∧ (outB (kv2 n m) (exB cells0 ms b (rs0 (kv2 n m)))).fin.length ≤ 1000 := by
  have D := due O nx hl ok
  have kl := exB_kl (cs := cells0) (ms := ms) b (rs0 (kv2 n m)) ok
  have li : LocI (exB cells0 ms b (rs0 (kv2 n m))).2 := exB_in (good_loc ms) b _ fun v hv => by
    have hv : v ∈ [V.int n, V.int m] := hv
    simp only [List.mem_cons, List.not_mem_nil, or_false] at hv
    rcases hv with rfl | rfl
    · exact ⟨n, rfl⟩
    · exact ⟨m, rfl⟩
  generalize exB cells0 ms b (rs0 (kv2 n m)) = re at O nx D kl li ⊢
  obtain ⟨r, s⟩ := re
  have ints_of : ∀ xs : List V, (∀ v ∈ xs, ∃ i : Int, v = .int i) → ∃ l : List Int, xs = l.map V.int := fun xs => by
    induction xs with
    | nil => exact fun _ => ⟨[], rfl⟩
    | cons x xs ih =>
      intro h
      obtain ⟨l, rfl⟩ := ih fun v m => h v (List.mem_cons_of_mem _ m)
      obtain ⟨i, rfl⟩ := h x List.mem_cons_self
      exact ⟨i :: l, rfl⟩
  have f0 : ∃ l : List Int, (kv2 n m).map (·.2) = l.map V.int := ⟨[n, m], rfl⟩
  cases r with
  | x => exact absurd rfl nx
  | f z => exact ⟨⟨D.flat, D.rds, D.wrs, f0, ⟨[], rfl⟩⟩, by show ("fault" : Str).length ≤ 100; decide +kernel, by show 2 ≤ 1000; decide⟩
  | k wd =>
    rw [outB_k] at D ⊢
    have w5 : wd.length ≤ 5 := kl wd rfl
    by_cases hw : wd = "done"
    · rw [if_pos hw] at D ⊢
      refine ⟨⟨D.flat, D.rds, D.wrs, ints_of _ li, ⟨s.ltr, rfl⟩⟩, by show wd.length ≤ 100; omega, ?_⟩
      show (s.loc.map (·.2)).length ≤ 1000
      rw [List.length_map]
      exact O.lc
    · rw [if_neg hw] at D ⊢
      exact ⟨⟨D.flat, D.rds, D.wrs, f0, ⟨[], rfl⟩⟩, by show wd.length ≤ 100; omega, by show 2 ≤ 1000; decide⟩
end K13

namespace K13
open PySem L2 YF YG NdefX
theorem ltr_le {n m : Int} {ms : List Int} {b : Bd} (cst : b.cst ≤ 64800) (nx : (exB cells0 ms b (rs0 (kv2 n m))).1 ≠ .x) : (outB (kv2 n m) (exB cells0 ms b (rs0 (kv2 n m)))).ltr.length ≤ 100000 := by
  have h := (fitsB (cs := cells0) (ms := ms) b (rs0 (kv2 n m)) (by show 0 + b.cst ≤ 100000; omega)).2
  generalize exB cells0 ms b (rs0 (kv2 n m)) = re at h nx ⊢
  obtain ⟨r, s⟩ := re
  have h : s.ltr.length ≤ 0 + b.cst := h
  cases r with
  | x => exact absurd rfl nx
  | f z => exact Nat.zero_le _
  | k wd =>
    rw [outB_k]
    by_cases hw : wd = "done"
    · rw [if_pos hw]
      show (s.ltr.map V.int).length ≤ 100000
      rw [List.length_map]
      omega
    · rw [if_neg hw]
      exact Nat.zero_le _
theorem bd_refs {K : PySem.W.Frag} {B : Hp} : ∀ {b : Bd} {xs : List V}, Rp K B b.row xs → ∀ x ∈ xs, ∃ t, x = V.ref t
  | .nil, xs, h, x, m => by
    have h : xs = [] := h
    rw [h] at m
    cases m
  | .cons s r, xs, h, x, m => by
    obtain ⟨y, ys, rfl, q1, q2⟩ := rp_cons h
    rcases List.mem_cons.mp m with e | e
    · obtain ⟨t, _, rfl, _⟩ := sm_at q1
      exact ⟨t, e⟩
    · exact bd_refs (b := r) q2 x e
theorem same_items {K : PySem.W.Frag} {H : Hp} {n : Nat} : ∀ {xs : List V}, (∀ x ∈ xs, ∃ t, x = V.ref t) → Paired (EqV K H (n + 1)) xs xs
  | [], _ => .nil
  | x :: xs, h => by
    obtain ⟨t, rfl⟩ := h x List.mem_cons_self
    exact .cons (.inr (.inl ⟨t, rfl, rfl⟩)) (same_items fun v m => h v (List.mem_cons_of_mem _ m))
theorem int_items {K : PySem.W.Frag} {H : Hp} {n : Nat} (l : List Int) : Paired (EqV K H (n + 1)) (l.map V.int) (l.map V.int) := eq_list fun v hv => by
  obtain ⟨i, _, rfl⟩ := List.mem_map.mp hv
  rfl
/-- the cells as data -/
def dCells : PyData := .list [.tuple [.str "a", .int 2, .int 3], .tuple [.str "b", .int 1, .int 0], .tuple [.str "c", .int 3, .int (-1)]]
theorem dp_cells {K : PySem.W.Frag} {H : Hp} {pc : Addr} (h : CellsIn K H pc cells0) : Dp K H (.ref pc) dCells := by
  obtain ⟨xs, hx, hp⟩ := h.ex
  cases hp with
  | cons h1 hp =>
    cases hp with
    | cons h2 hp =>
      cases hp with
      | cons h3 hp =>
        cases hp
        obtain ⟨t1, rfl, e1⟩ := h1
        obtain ⟨t2, rfl, e2⟩ := h2
        obtain ⟨t3, rfl, e3⟩ := h3
        exact .lst hx (.cons (.tup e1 (.cons (.str _) (.cons (.int _) (.cons (.int _) .nil)))) (.cons (.tup e2 (.cons (.str _) (.cons (.int _) (.cons (.int _) .nil)))) (.cons (.tup e3 (.cons (.str _) (.cons (.int _) (.cons (.int _) .nil)))) .nil)))
theorem cm_cells {K : PySem.W.Frag} {H : Hp} {pc pd : Addr} (h : CellsIn K H pc cells0) (g : CellsIn K H pd cells0) : Cm K H (.ref pc) (.ref pd) true := by
  have oa : PyData.strOk ("a" : Str) = true := by decide +kernel
  have ob : PyData.strOk ("b" : Str) = true := by decide +kernel
  have oc : PyData.strOk ("c" : Str) = true := by decide +kernel
  have c := Cm.data (dp_cells h) (dp_cells g) (by simp [dCells, PyData.canLay0, PyData.canLayAll0, oa, ob, oc]) (by simp [dCells, PyData.canLay0, PyData.canLayAll0, oa, ob, oc]) (by simp [dCells, PyData.depth, PyData.depthAll])
  have e : PyData.eqv dCells dCells = true := by simp [dCells, PyData.eqv, PyData.eqvAll]
  rw [e] at c
  exact c
def CellsR (H : Hp) (pc : Addr) : Prop := ∃ xs, H pc = some (.lst xs) ∧ Paired (fun (c : Cl) v => ∃ t, v = V.ref t ∧ H t = some (.tup [.str c.1, .int c.2.1, .int c.2.2])) cells0 xs
theorem CellsR.mono {H H' : Hp} {pc : Addr} (h : CellsR H pc) (s : ∀ c u, H c = some u → (∀ ps, u ≠ .tbl ps) → H' c = some u) : CellsR H' pc := by
  obtain ⟨xs, e, q⟩ := h
  exact ⟨xs, s _ _ e (fun ps z => by cases z), paired_mapP q fun c u ⟨t, ev, et⟩ => ⟨t, ev, s _ _ et fun ps z => by cases z⟩⟩
theorem CellsR.cel {K : PySem.W.Frag} {H : Hp} {pc : Addr} (h : CellsR H pc) : CellsIn K H pc cells0 := by
  obtain ⟨xs, e, q⟩ := h
  exact ⟨xs, SqL.of e, paired_mapP q fun c u ⟨t, ev, et⟩ => ⟨t, ev, SqT.of et⟩⟩
theorem CellsR.kp {K : PySem.W.Frag} {H : Hp} {p pc : Addr} (hc : CellsR H pc) (r : Row H p) (npc : pc ≠ p) : CellsIn K (K13.kp [p] H) pc cells0 := by
  obtain ⟨xs, e, q⟩ := hc
  refine ⟨xs, SqL.of (kp_at e (by simpa using npc) fun ps z => by cases z), paired_mapP q fun c u ⟨t, ev, et⟩ => ⟨t, ev, SqT.of (kp_at et (fun z => ?_) fun ps z => by cases z)⟩⟩
  obtain ⟨ns, e2⟩ := r
  rw [List.mem_singleton.mp z, e2] at et
  cases et
theorem DueAt.mono {H H' : Hp} {t : Addr} {o : OutC} (h : DueAt H t o) (s : ∀ c u, H c = some u → (∀ ps, u ≠ .tbl ps) → H' c = some u) : DueAt H' t o := by
  obtain ⟨a, b, f, l, h0, h1, h2, h3, h4⟩ := h
  exact ⟨a, b, f, l, s _ _ h0 (fun ps z => by cases z), s _ _ h1 (fun ps z => by cases z), s _ _ h2 (fun ps z => by cases z), s _ _ h3 (fun ps z => by cases z), s _ _ h4 (fun ps z => by cases z)⟩
end K13

namespace K13
open PySem L2 YF YG NdefX
section
variable {P : Program} {w : World} {K : PySem.W.Frag} {mg : Str → Option Value} {base : Heap} {A : Adr}
def spLaw (K : PySem.W.Frag) (A : Adr) : Sp := fun vs H Q _ => ∃ (a : Addr) (ns : List Int), vs = [.ref a] ∧ SqL K H a (ns.map V.int) ∧ TabsN (TabV A) H ∧ ∀ H', Q (.bl true) H'
theorem ok_law (TB : LamX.TabB base mg A.c_Run__value A.t_Run__value) (T : Txt K mg A) : FnOk P w K mg base CX0 30 A.a_law A.d_law ["script"] (spLaw K A) := by
  refine T.F_law.ok (k := 29) sc_law (fun vs H Q E ⟨_, _, e, _⟩ => by rw [e]; rfl) (fun cdv A' outer s0 H vs Q E hr h => ?_)
  obtain ⟨a, ns, rfl, hS, tab, k⟩ := h
  refine ⟨_, pss_cons (ps_set (i := 1) sc_law.nd rfl (Or.inl rfl) (pe_call (ok_law_numbers T) (hr.mono (by decide)) rfl T.g__law_numbers T.F__law_numbers.kp T.b__law_numbers .nil pass0 (pa_cons (pv 0) (pa_cons (pe_int) pa_nil))))
  (pss_cons (ps_set (i := 2) sc_law.nd rfl (Or.inl rfl) (pe_lst (pa_cons (pe_tup (pa_cons (pe_str) (pa_cons (pe_call (ok_law_number T) (hr.mono (by decide)) rfl T.g__law_number T.F__law_number.kp T.b__law_number .nil pass0 (pa_cons (pv 1) pa_nil)) pa_nil))) (pa_cons (pe_tup (pa_cons (pe_str) (pa_cons (pe_call (ok_law_number T) (hr.mono (by decide)) rfl T.g__law_number T.F__law_number.kp T.b__law_number .nil pass0 (pa_cons (pv 1) pa_nil)) pa_nil))) pa_nil))))
  (pss_cons (ps_set (i := 3) sc_law.nd rfl (Or.inl rfl) (pe_call (ok_law_bodies T 4) (hr.mono (by decide)) rfl T.g__law_body T.F__law_body.kp T.b__law_body .nil pass0 (pa_cons (pv 1) (pa_cons (pe_int) (pa_cons (pe_lst (pa_cons (pe_str) (pa_cons (pe_str) pa_nil))) (pa_cons (pe_int) pa_nil))))))
  (pss_cons (ps_set (i := 4) sc_law.nd rfl (Or.inl rfl) (pe_call (ok_law_memory T) (hr.mono (by decide)) rfl T.g__law_memory T.F__law_memory.kp T.b__law_memory .nil pass0 (pa_cons (pv 1) pa_nil)))
  (pss_cons (ps_set (i := 5) sc_law.nd rfl (Or.inl rfl) (pe_call (ok_law_outcome T) (hr.mono (by decide)) rfl T.g__law_outcome T.F__law_outcome.kp T.b__law_outcome .nil pass0 (pa_cons (pv 3) (pa_cons (pe_call0 (ok_law_cells T) (hr.mono (by decide)) rfl T.g__law_cells T.F__law_cells.kp T.b__law_cells .nil pass0) (pa_cons (pv 2) (pa_cons (pe_callTy call_list_of (by rfl) T.n_list (by decide +kernel) (pa_cons (pv 4) pa_nil)) pa_nil))))))
  (pss_cons (ps_set (i := 6) sc_law.nd rfl (Or.inl rfl) (pe_tup (pa_cons (pe_callTy call_list_of (by rfl) T.n_list (by decide +kernel) (pa_cons (pv 3) pa_nil)) (pa_cons (pe_call0 (ok_law_cells T) (hr.mono (by decide)) rfl T.g__law_cells T.F__law_cells.kp T.b__law_cells .nil pass0) (pa_cons (pe_callTy call_list_of (by rfl) T.n_list (by decide +kernel) (pa_cons (pv 2) pa_nil)) (pa_cons (pe_callTy call_list_of (by rfl) T.n_list (by decide +kernel) (pa_cons (pv 4) pa_nil)) pa_nil))))))
  (pss_cons (ps_set (i := 7) sc_law.nd rfl (Or.inl rfl) (pe_call (ok_run_block 4 TB T) (hr.mono (by decide)) rfl T.g_run_block T.F_run_block.kp T.b_run_block .nil pass0 (pa_cons (pe_ix ix_tup (pv 6) (pe_int) (fun _ _ => rfl)) (pa_cons (pe_ix ix_tup (pv 6) (pe_int) (fun _ _ => rfl)) (pa_cons (pe_ix ix_tup (pv 6) (pe_int) (fun _ _ => rfl)) (pa_cons (pe_ix ix_tup (pv 6) (pe_int) (fun _ _ => rfl)) pa_nil))))))
  (pss_cons (ps_if (PW.pt (pw_or (pt_cmpR (op_neW hr.units) (pe_call (ok_law_parts T) (hr.mono (by decide)) rfl T.g__law_parts T.F__law_parts.kp T.b__law_parts .nil pass0 (pa_cons (pv 7) pa_nil)) (pv 5) (nomark _)) (pw_or1 (pt_cmpR (op_neW hr.units) (pv 6) (pe_tup (pa_cons (pv 3) (pa_cons (pe_call0 (ok_law_cells T) (hr.mono (by decide)) rfl T.g__law_cells T.F__law_cells.kp T.b__law_cells .nil pass0) (pa_cons (pv 2) (pa_cons (pv 4) pa_nil))))) (nomark _)))))
  (pss_one (ps_ret (pe_bl)))
  (pss_nil))
  (pss_cons (ps_set (i := 8) sc_law.nd rfl (Or.inl rfl) (pe_call (ok_run_block 4 TB T) (hr.mono (by decide)) rfl T.g_run_block T.F_run_block.kp T.b_run_block .nil pass0 (pa_cons (pv 3) (pa_cons (pe_call0 (ok_law_cells T) (hr.mono (by decide)) rfl T.g__law_cells T.F__law_cells.kp T.b__law_cells .nil pass0) (pa_cons (pv 2) (pa_cons (pv 4) pa_nil))))))
  (pss_cons (ps_if (pt_cmpR op_notB (pe_call (ok_same_outcome2 T) (hr.mono (by decide)) rfl T.g_same_outcome T.F_same_outcome.kp T.b_same_outcome .nil pass0 (pa_cons (pv 7) (pa_cons (pv 8) pa_nil))) pe_bl (nomark _))
  (pss_one (ps_ret (pe_bl)))
  (pss_nil))
  (pss_one (ps_ret (pe_cmpR op_isB (pe_call (ok_same_outcome2 T) (hr.mono (by decide)) rfl T.g_same_outcome T.F_same_outcome.kp T.b_same_outcome .nil pass0 (pa_cons (pv 7) (pa_cons (pe_call (ok_law_other T) (hr.mono (by decide)) rfl T.g__law_other T.F__law_other.kp T.b__law_other .nil pass0 (pa_cons (pv 1) (pa_cons (pe_call (ok_law_parts T) (hr.mono (by decide)) rfl T.g__law_parts T.F__law_parts.kp T.b__law_parts .nil pass0 (pa_cons (pv 7) pa_nil)) pa_nil))) pa_nil))) pe_bl (nomark _))))))))))))), ?_⟩
  refine asg_call (ta_cons (te_var rfl) (ta_cons te_c ta_nil)) ⟨a, ns, 150, rfl, hS, by decide, by decide, fun p H1 hp s1 r1 => ?_⟩
  have tab1 : TabsN (TabV A) H1 := fun t ht => (tab t ht).ext s1
  -- names
  refine asg_un (lstd_un (cons_un (tup_un (cons_un (Te.go te_c (cons_un (go_number (ta_cons (te_var rfl) ta_nil) r1 fun n H2 rn s2 r2 => nil_un ⟨show 2 ≤ sizeLine by decide, fun t1 ht1 => ?_⟩)))))))
  refine cons_un (tup_un (cons_un (Te.go te_c (cons_un (go_number (p := p) (ta_cons (te_var rfl) ta_nil) ?_ fun m H4 rm s4 r4 => nil_un ⟨show 2 ≤ sizeLine by decide, fun t2 ht2 => nil_un ⟨show 2 ≤ sizeLine by decide, fun pn hpn => ?_⟩⟩)))))
  · obtain ⟨ns2, e2⟩ := r2
    exact ⟨ns2, Same.upd ht1 _ _ e2⟩
  dsimp only [gName]
  have nrow : ∀ {G : Hp} {q : Addr}, Row G p → G q = none → q ≠ p := fun {G q} r h z => by
    obtain ⟨ns2, e2⟩ := r
    rw [z, e2] at h
    cases h
  have rowU : ∀ {G : Hp} {q : Addr} {o : HO}, Row G p → G q = none → Row (upd G q o) p := fun {G q o} r h => by
    obtain ⟨ns2, e2⟩ := r
    exact ⟨ns2, Same.upd h _ _ e2⟩
  have tabU : ∀ {G : Hp} {q : Addr} {o : HO}, TabsN (TabV A) G → G q = none → TabsN (TabV A) (upd G q o) := fun {G q o} r h t ht => (r t ht).ext (Same.upd h)
  have tabS : ∀ {G G2 : Hp}, TabsN (TabV A) G → Row G p → Stay p G G2 → TabsN (TabV A) G2 := fun {G G2} t r s => by
    obtain ⟨ns2, e2⟩ := r
    exact tabs_stay t s e2
  have e1 := s4.all _ _ (nrow r2 ht1) upd_same
  have n2 := nrow r4 ht2
  have e2 : (upd (upd H4 t2 (.tup [.str "y", .int m])) pn (.lst [.ref t1, .ref t2])) t2 = some (.tup [.str "y", .int m]) := Same.upd hpn _ _ upd_same
  have e1b : (upd (upd H4 t2 (.tup [.str "y", .int m])) pn (.lst [.ref t1, .ref t2])) t1 = some (.tup [.str "x", .int n]) := Same.upd hpn _ _ (Same.upd ht2 _ _ e1)
  have ep : (upd (upd H4 t2 (.tup [.str "y", .int m])) pn (.lst [.ref t1, .ref t2])) pn = some (.lst [.ref t1, .ref t2]) := upd_same
  have npn : pn ≠ p := nrow (rowU r4 ht2) hpn
  have r6 : Row (upd (upd H4 t2 (.tup [.str "y", .int m])) pn (.lst [.ref t1, .ref t2])) p := rowU (rowU r4 ht2) hpn
  have tab6 : TabsN (TabV A) (upd (upd H4 t2 (.tup [.str "y", .int m])) pn (.lst [.ref t1, .ref t2])) := tabU (tabU (tabS (tabU (tabS tab1 r1 s2) ht1) (rowU r2 ht1) s4) ht2) hpn
  generalize upd (upd H4 t2 (.tup [.str "y", .int m])) pn (.lst [.ref t1, .ref t2]) = H6 at e2 e1b ep r6 tab6 ⊢
  have pr6 : PrAt K (kp [p] H6) pn (kv2 n m) := ⟨[t1, t2], SqL.of (kp_at ep (by simpa using npn) fun ps z => by cases z), .cons (SqT.of (kp_at e1b (by simpa using nrow r2 ht1) fun ps z => by cases z)) (.cons (SqT.of (kp_at e2 (by simpa using n2) fun ps z => by cases z)) .nil)⟩
  clear s4 s2 r4 r2 ht1 ht2 hpn e1 e2 e1b ep
  -- the body
  try dsimp only
  refine set_sl (σ' := [some (.ref a), some (.ref p), some (.ref pn), none, none, none, none, none, none]) rfl ?_
  refine asg_un (call_un (cons_un (Te.go (te_var rfl) (cons_un (Te.go te_c (cons_un (lstd_un ((ta_cons te_c (ta_cons te_c ta_nil)) _ ⟨show 2 ≤ sizeLine by decide, fun q hq => cons_un (Te.go te_c (nil_un ⟨[p], p, q, 3, 2, rfl, by decide, by decide, ?_, fun b v H8 ok dp cst s8 r8 rb => ?_⟩))⟩))))))))
  · exact ⟨rowU r6 hq, SqL.of (kp_at upd_same (by simpa using nrow r6 hq) fun ps z => by cases z), List.mem_singleton.mpr rfl, fun x hx => by
      obtain ⟨ns2, e2⟩ := r6
      rw [List.mem_singleton.mp hx]
      exact ⟨_, Same.upd hq _ _ e2⟩⟩
  have s68 : Same (kp [p] H6) H8 := fun c o h => s8.all c o (by simpa using (kp_some h).1) (Same.upd hq _ _ (kp_some h).2.1)
  have L8 : LwS K A H8 p pn n m b v := ⟨r8, pr6.mono (kp1 s68), rb, tabS (tabU tab6 hq) (rowU r6 hq) s8⟩
  clear hq s8 s68
  try dsimp only
  refine set_sl (σ' := [some (.ref a), some (.ref p), some (.ref pn), some v, none, none, none, none, none]) rfl ?_
  -- the memory
  refine asg_un (call_un ((ta_cons (te_var rfl) ta_nil) _ ⟨p, rfl, r8, fun pm ms H9 hpm s9 r9 em lm qm => ?_⟩))
  have L9 := L8.stay s9 r9
  have npm := nrow r8 hpm
  try dsimp only
  refine set_sl (σ' := [some (.ref a), some (.ref p), some (.ref pn), some v, some (.ref pm), none, none, none, none]) rfl ?_
  have cst' : b.cst ≤ 64800 := Nat.le_trans cst (by decide)
  have dp' : b.dp ≤ 3 := dp
  clear dp cst hpm s9 L8
  have nx : (exB cells0 ms b (rs0 (kv2 n m))).1 ≠ .x := (fitsB b (rs0 (kv2 n m)) (by show 0 + b.cst ≤ 100000; omega)).1
  have nt : ∀ {H H' : Hp}, Same H H' → ∀ c u, H c = some u → (∀ ps, u ≠ .tbl ps) → H' c = some u := fun s c u e _ => s c u e
  -- what is due
  refine asg_un (call_un (cons_un (Te.go (te_var rfl) (cons_un (call_un (nil_un ⟨rfl, fun pc H10 hpc s10 hcel => ?_⟩))))))
  refine cons_un (Te.go (te_var rfl) (cons_un (cb_un ((ta_cons (te_var rfl) ta_nil) _ ⟨pm, _, rfl, .inl (SqL.of (s10 _ _ em)), fun qq hq => nil_un ?_⟩))))
  have L11 := (L9.same s10).same (Same.upd (o := .lst (ms.map V.int)) hq)
  have c11 : CellsR (upd H10 qq (.lst (ms.map V.int))) pc := CellsR.mono hcel (nt (Same.upd hq))
  have npc : pc ≠ p := nrow L9.row hpc
  have nqq : qq ≠ p := nrow (L9.same s10).row hq
  have e11 : (upd H10 qq (.lst (ms.map V.int))) qq = some (.lst (ms.map V.int)) := upd_same
  have em11 := Same.upd (o := .lst (ms.map V.int)) hq _ _ (s10 _ _ em)
  generalize upd H10 qq (HO.lst (ms.map V.int)) = H11 at L11 c11 e11 em11 ⊢
  refine ⟨pc, pn, qq, K13.kp [p] H11, v, b, n, m, ms, rfl, kp_sub, L11.bod, ok, by omega, L11.nms, c11.kp L11.row npc, kp_at e11 (by simpa using nqq) (fun ps z => by cases z), okS0 rn rm lm qm, nx, fun t H12 s12 du => ?_⟩
  have L12 := L11.same s12
  have em12 := s12 _ _ em11
  clear hq hpc s10 hcel L11 c11 npc nqq e11 em11 em L9 s12
  try dsimp only
  refine set_sl (σ' := [some (.ref a), some (.ref p), some (.ref pn), some v, some (.ref pm), some (.ref t), none, none, none]) rfl ?_
  -- given
  obtain ⟨ab, xs, ev, hab, hlen, hrow⟩ := L12.bod
  cases ev
  obtain ⟨ps, hps, hpp⟩ := L12.nms
  refine asg_un (tup_un (cons_un (cb_un ((ta_cons (te_var rfl) ta_nil) _ ⟨ab, xs, rfl, .inl (Same.sqL kp_sub hab), fun gb hgb => cons_un (call_un (nil_un ⟨rfl, fun pd H14 hpd s14 hcel => ?_⟩))⟩))))
  refine cons_un (cb_un ((ta_cons (te_var rfl) ta_nil) _ ⟨pn, _, rfl, .inl (Same.sqL (((kp_sub : Same (K13.kp [p] H12) H12).trans (Same.upd (o := .lst xs) hgb)).trans s14) hps), fun gn hgn => cons_un (cb_un ((ta_cons (te_var rfl) ta_nil) _ ⟨pm, _, rfl, .inl (SqL.of (Same.upd (o := .lst (ps.map V.ref)) hgn _ _ (s14 _ _ (Same.upd (o := .lst xs) hgb _ _ em12)))), fun gm hgm => nil_un ⟨show 4 ≤ sizeLine by decide, fun tg htg => ?_⟩⟩))⟩))
  have ngb : gb ≠ p := nrow L12.row hgb
  have q1 : Same H12 (upd H12 gb (.lst xs)) := Same.upd hgb
  have f1 : (upd H12 gb (.lst xs)) gb = some (.lst xs) := upd_same
  generalize upd H12 gb (HO.lst xs) = H13 at q1 f1 hpd s14 ⊢
  have npd : pd ≠ p := nrow (L12.same q1).row hpd
  have ngn : gn ≠ p := nrow (L12.same (q1.trans s14)).row hgn
  have q3 : Same H14 (upd H14 gn (.lst (ps.map V.ref))) := Same.upd hgn
  have f3 : (upd H14 gn (.lst (ps.map V.ref))) gn = some (.lst (ps.map V.ref)) := upd_same
  generalize upd H14 gn (HO.lst (ps.map V.ref)) = H15 at q3 f3 hgm htg ⊢
  have ngm : gm ≠ p := nrow (L12.same ((q1.trans s14).trans q3)).row hgm
  have q4 : Same H15 (upd H15 gm (.lst (ms.map V.int))) := Same.upd hgm
  have f4 : (upd H15 gm (.lst (ms.map V.int))) gm = some (.lst (ms.map V.int)) := upd_same
  generalize upd H15 gm (HO.lst (ms.map V.int)) = H16 at q4 f4 htg ⊢
  have q5 : Same H16 (upd H16 tg (.tup [.ref gb, .ref pd, .ref gn, .ref gm])) := Same.upd htg
  have f5 : (upd H16 tg (.tup [.ref gb, .ref pd, .ref gn, .ref gm])) tg = some (.tup [.ref gb, .ref pd, .ref gn, .ref gm]) := upd_same
  generalize upd H16 tg (HO.tup [.ref gb, .ref pd, .ref gn, .ref gm]) = H17 at q5 f5 ⊢
  have r4 := q4.trans q5
  have r3 := q3.trans r4
  have rr := (q1.trans s14).trans r3
  have L17 := L12.same rr
  have f1 := r3 _ _ (s14 _ _ f1)
  have c17 : CellsR H17 pd := CellsR.mono hcel (nt r3)
  have f3 := r4 _ _ f3
  have f4 := q5 _ _ f4
  have du17 := du.mono (nt rr)
  have em17 := rr _ _ em12
  have hab17 : SqL K H17 ab xs := Same.sqL ((kp_sub : Same (K13.kp [p] H12) H12).trans rr) hab
  have hps17 : SqL K H17 pn (ps.map V.ref) := Same.sqL ((kp_sub : Same (K13.kp [p] H12) H12).trans rr) hps
  have s1217 : Same (K13.kp [p] H12) (K13.kp [p] H17) := kp1 fun c u h => rr _ _ (kp_some h).2.1
  clear q1 s14 q3 q4 r4 r3 hgb hpd hgn hgm htg hcel em12 q5
  try dsimp only
  refine set_sl (σ' := [some (.ref a), some (.ref p), some (.ref pn), some (.ref ab), some (.ref pm), some (.ref t), some (.ref tg), none, none]) rfl ?_
  have RPg : Rp K (K13.kp [p] H17) (.lst b.row) [.ref gb] := ⟨gb, xs, rfl, SqL.of (kp_at f1 (by simpa using ngb) fun ps z => by cases z), hlen, Rp.mono s1217 hrow⟩
  have PRg : PrAt K (K13.kp [p] H17) gn (kv2 n m) := ⟨ps, SqL.of (kp_at f3 (by simpa using ngn) fun ps z => by cases z), paired_mapP hpp fun c kv h => Same.sqT s1217 h⟩
  refine asg_un (call_un ((ta_cons (te_ixT (te_var rfl) te_c (SqT.of f5) (atI_nat (j := 0) rfl)) (ta_cons (te_ixT (te_var rfl) te_c (SqT.of f5) (atI_nat (j := 1) rfl)) (ta_cons (te_ixT (te_var rfl) te_c (SqT.of f5) (atI_nat (j := 2) rfl)) (ta_cons (te_ixT (te_var rfl) te_c (SqT.of f5) (atI_nat (j := 3) rfl)) ta_nil)))) _ ⟨.ref gb, pd, gn, gm, K13.kp [p] H17, b, nm2, cells0, ms, kv2 n m, rfl, kp_sub, fun c ps z => (kp_some z).2.2 ps rfl, RPg, ok, by omega, c17.kp L17.row npd, PRg, kp_at f4 (by simpa using ngm) (fun ps z => by cases z), okS0 rn rm lm qm, nx, L17.tab, by show 2 ≤ 1000; decide, fun x H18 kk tt O o => ?_⟩))
  have L18 := L17.kp kk tt
  have D := due O nx lm ok
  obtain ⟨OI, klen, flen⟩ := outI O nx lm ok
  have llen := ltr_le (n := n) (m := m) (ms := ms) cst' nx
  generalize eO : outB (kv2 n m) (exB cells0 ms b (rs0 (kv2 n m))) = od at o D OI klen flen llen du17
  have n9 : ∀ {c : Addr} {u : HO}, nwT H17 H18 c = some u → c ≠ p := fun {c u} h z => by
    obtain ⟨nk, _⟩ := nwT_some h
    obtain ⟨ns2, e2⟩ := L17.row
    rw [z] at nk
    obtain ⟨ps, q⟩ := nk _ e2
    cases q
  have keep : ∀ c u, H17 c = some u → (∀ ps, u ≠ .tbl ps) → H18 c = some u := fun c u e z => kk _ _ (by simp) e z
  have ob := o
  obtain ⟨dx, ra, wa, fa, la, gx, g1, g2, g3, g4⟩ := o
  have nfa := n9 g3
  have nla := n9 g4
  have nxp := n9 gx
  have nra := n9 g1
  have nwa := n9 g2
  have hx := (nwT_some gx).2
  have h1 := (nwT_some g1).2
  have h2 := (nwT_some g2).2
  have h3 := (nwT_some g3).2
  have h4 := (nwT_some g4).2
  have f1 := keep _ _ f1 fun ps z => by cases z
  have c18 := c17.mono keep
  have f3 := keep _ _ f3 fun ps z => by cases z
  have f4 := keep _ _ f4 fun ps z => by cases z
  have f5 := keep _ _ f5 fun ps z => by cases z
  have em18 := keep _ _ em17 fun ps z => by cases z
  have du18 := du17.mono keep
  have s1218 : Same (K13.kp [p] H12) H18 := fun c u h => keep _ _ (rr _ _ (kp_some h).2.1) (kp_some h).2.2
  have hab := Same.sqL s1218 hab
  have hps := Same.sqL s1218 hps
  clear RPg PRg c17 em17 du17 gx g1 g2 g3 g4 hab17 hps17 s1217
  try dsimp only
  refine set_sl (σ' := [some (.ref a), some (.ref p), some (.ref pn), some (.ref ab), some (.ref pm), some (.ref t), some (.ref tg), some (.ref x), none]) rfl ?_
  obtain ⟨ra2, wa2, fa2, la2, du0, du1, du2, du3, du4⟩ := du18
  have fl := D.flat
  have dk : ∀ {G : Hp} {u v : Addr} {kv : Kv}, G u = some (.dK kv) → G v = some (.dK kv) → (∀ p ∈ kv, valV kv p.1 = some p.2 ∧ flatB p.2 = true) → Cm K G (.ref u) (.ref v) true :=
    fun {G u v kv} hu hv ok => .deep (.inr (.inr (.inr ⟨u, v, kv, kv, rfl, rfl, hu, hv, rfl, fun p hp => ⟨p.2, (ok p hp).1, .inl ⟨rfl, (ok p hp).2⟩⟩⟩)))
  have lk : ∀ {G : Hp} {u v : Addr} {xs : List V}, SqL K G u xs → SqL K G v xs → Paired (EqV K G 8) xs xs → Cm K G (.ref u) (.ref v) true :=
    fun {G u v xs} hu hv ok => .deep (.inr (.inr (.inl ⟨u, v, xs, xs, rfl, rfl, hu, hv, ok⟩)))
  have fk : ∀ {G : Hp} {v : V}, flatB v = true → Cm K G v v true := fun h => .deep (.inl ⟨rfl, h⟩)
  refine iff_un (or_un (test_un (op_un (call_un ((ta_cons (te_var rfl) ta_nil) _ ⟨x, dx, ra, wa, fa, la, od.kd, od.rv, rfl, hx, fun q hq => Te.go (te_var rfl) ⟨q, t, _, _, rfl, rfl, SqT.of upd_same, SqT.of (Same.upd hq _ _ du0), ?_, false, rfl, no_go ?_⟩⟩)))))
  · have s := Same.upd (o := .tup [.str od.kd, .ref ra, .ref wa, .ref fa, .ref la, od.rv]) hq
    exact .cons (fk rfl) (.cons (dk (s _ _ h1) (s _ _ du1) fl.rds) (.cons (dk (s _ _ h2) (s _ _ du2) fl.wrs) (.cons (lk (SqL.of (s _ _ h3)) (SqL.of (s _ _ du3)) (eq_list fl.fin)) (.cons (lk (SqL.of (s _ _ h4)) (SqL.of (s _ _ du4)) (eq_list fl.ltr)) (.cons (fk fl.rv) .nil)))))
  have z1 : Same H18 (upd H18 q (.tup [.str od.kd, .ref ra, .ref wa, .ref fa, .ref la, od.rv])) := Same.upd hq
  generalize upd H18 q (HO.tup [.str od.kd, .ref ra, .ref wa, .ref fa, .ref la, od.rv]) = H19 at z1 ⊢
  clear hq du0 du1 du2 du3 du4
  refine test_un (op_un (Te.go (te_var rfl) (tup_un (cons_un (Te.go (te_var rfl) (cons_un (call_un (nil_un ⟨rfl, fun pe H20 hpe s20 hcel => cons_un (Te.go (te_var rfl) (cons_un (Te.go (te_var rfl) (nil_un ⟨show 4 ≤ sizeLine by decide, fun tz htz => ⟨tg, tz, _, _, rfl, rfl, SqT.of (Same.upd htz _ _ (s20 _ _ (z1 _ _ f5))), SqT.of upd_same, ?_, false, rfl, no_go ?_⟩⟩))))⟩))))))))
  · have s := (z1.trans s20).trans (Same.upd (o := .tup [.ref ab, .ref pe, .ref pn, .ref pm]) htz)
    refine .cons (lk (SqL.of (s _ _ f1)) (Same.sqL s hab) (same_items (bd_refs hrow))) (.cons (cm_cells (c18.mono (nt s)).cel (CellsR.mono hcel (nt (Same.upd htz))).cel) (.cons (lk (SqL.of (s _ _ f3)) (Same.sqL s hps) (same_items fun y hy => ?_)) (.cons (lk (SqL.of (s _ _ f4)) (SqL.of (s _ _ em18)) (int_items ms)) .nil)))
    obtain ⟨r, _, e⟩ := List.mem_map.mp hy
    exact ⟨r, e.symm⟩
  have z2 := (z1.trans s20).trans (Same.upd (o := .tup [.ref ab, .ref pe, .ref pn, .ref pm]) htz)
  generalize upd H20 tz (HO.tup [.ref ab, .ref pe, .ref pn, .ref pm]) = H21 at z2 ⊢
  clear z1 s20 hpe hcel htz c18 f1 f3 f4 f5 hab hps
  have L21 := L18.same z2
  -- the second run
  refine asg_un (go_rb (n := n) (m := m) (ms := ms) L21 (fun _ => te_var rfl) (fun _ => te_var rfl) (fun _ => te_var rfl) (z2 _ _ em18) npm rn rm lm qm ok dp' cst' fun y H22 k22 L22 O2 nx2 o2 => ?_)
  rw [eO] at o2
  have k22 : ∀ {c : Addr} {u : HO}, H18 c = some u → (∀ ps, u ≠ .tbl ps) → H22 c = some u := fun e z => k22 _ _ (by simp) (z2 _ _ e) z
  have hx22 := k22 hx fun ps z => by cases z
  have e1 := k22 h1 fun ps z => by cases z
  have e2 := k22 h2 fun ps z => by cases z
  have e3 := k22 h3 fun ps z => by cases z
  have e4 := k22 h4 fun ps z => by cases z
  try dsimp only
  refine set_sl (σ' := [some (.ref a), some (.ref p), some (.ref pn), some (.ref ab), some (.ref pm), some (.ref t), some (.ref tg), some (.ref x), some (.ref y)]) rfl ?_
  refine iff_un (test_un (op_un (call_un ((ta_cons (te_var rfl) (ta_cons (te_var rfl) ta_nil)) _ ⟨x, y, od, od, true, rfl, ⟨dx, ra, wa, fa, la, hx22, e1, e2, e3, e4⟩, o2.mono fun c u h => (nwT_some h).2, OI, .inl ⟨rfl, rfl⟩, fun H23 s23 => Te.go te_c ⟨true, true, rfl, rfl, false, rfl, no_go ?_⟩⟩))))
  have L23 := L22.same s23
  have hx22 := s23 _ _ hx22
  have e1 := s23 _ _ e1
  have e2 := s23 _ _ e2
  have e3 := s23 _ _ e3
  have e4 := s23 _ _ e4
  refine ret_un (op_un (call_un (cons_un (Te.go (te_var rfl) (cons_un (call_un (cons_un (Te.go (te_var rfl) (cons_un (call_un ((ta_cons (te_var rfl) ta_nil) _ ⟨x, dx, ra, wa, fa, la, od.kd, od.rv, rfl, hx22, fun q hq => nil_un ?_⟩)))))))))))
  have s24 := Same.upd (o := .tup [.str od.kd, .ref ra, .ref wa, .ref fa, .ref la, od.rv]) hq
  have L24 := L23.same s24
  refine ⟨p, q, ra, wa, fa, la, od, rfl, L24.row, nfa, nla, upd_same, s24 _ _ e1, s24 _ _ e2, s24 _ _ e3, s24 _ _ e4, klen, Nat.le_trans (numD_len OI.rds) (by decide), Nat.le_trans (numD_len OI.wrs) (by decide), flen, llen, fun z H25 o' s25 r25 oth oz => nil_un ?_⟩
  exact ⟨x, z, od, o', false, rfl, ⟨dx, ra, wa, fa, la, s25.all _ _ nxp (s24 _ _ hx22), s25.all _ _ nra (s24 _ _ e1), s25.all _ _ nwa (s24 _ _ e2), s25.all _ _ nfa (s24 _ _ e3), s25.all _ _ nla (s24 _ _ e4)⟩, oz, OI, .inr ⟨rfl, oth⟩, fun H26 s26 => Te.go te_c ⟨false, false, rfl, rfl, k _⟩⟩
end
end K13

namespace K13
open PySem L2 YF NdefX
theorem law_at {K : PySem.W.Frag} {A : Adr} {H : Hp} {a : Addr} {ns : List Int} (ht : ∀ p ∈ [(A.c_Run__value, A.t_Run__value)], H p.2 = some (.tbl #[])) (hS : SqL K H a (ns.map V.int)) : spLaw K A [.ref a] H (fun v _ => v = .bl true) fun _ _ _ => False :=
  ⟨a, ns, rfl, hS, fun q hq => by
    rw [List.mem_singleton.mp hq]
    exact TabN.nil (ht _ (List.mem_singleton.mpr rfl)), fun _ => rfl⟩
theorem law_ok {P : Program} {w : World} {K : PySem.W.Frag} {mg : Str → Option Value} {base : Heap} {A : Adr} (TB : ∀ p ∈ [(A.c_Run__value, A.t_Run__value)], LamX.TabB base mg p.1 p.2) (T : Txt K mg A) : FnOk P w K mg base CX0 30 A.a_law A.d_law ["script"] (spLaw K A) := ok_law (TB _ (List.mem_singleton.mpr rfl)) T
def dd_parts_of : He.DefD := ⟨("parts_of", none), "parts_of", "parts_of", defArgs s_parts_of, defBody s_parts_of, defScope s_parts_of, [], []⟩
def dd_is_value : He.DefD := ⟨("is_value", none), "is_value", "is_value", defArgs s_is_value, defBody s_is_value, defScope s_is_value, [], []⟩
def dd_cell_number : He.DefD := ⟨("cell_number", none), "cell_number", "cell_number", defArgs s_cell_number, defBody s_cell_number, defScope s_cell_number, [], []⟩
def dd_value_with : He.DefD := ⟨("value_with", none), "value_with", "value_with", defArgs s_value_with, defBody s_value_with, defScope s_value_with, [], []⟩
def dd__is_decided : He.DefD := ⟨("_is_decided", none), "_is_decided", "_is_decided", defArgs s_is_decided, defBody s_is_decided, defScope s_is_decided, [], []⟩
def dd__result : He.DefD := ⟨("_result", none), "_result", "_result", defArgs s_result, defBody s_result, defScope s_result, [], []⟩
def dd__truth : He.DefD := ⟨("_truth", none), "_truth", "_truth", defArgs s_truth, defBody s_truth, defScope s_truth, [], []⟩
def dd__of_one : He.DefD := ⟨("_of_one", none), "_of_one", "_of_one", defArgs s_of_one, defBody s_of_one, defScope s_of_one, [], []⟩
def dd__of_two : He.DefD := ⟨("_of_two", none), "_of_two", "_of_two", defArgs s_of_two, defBody s_of_two, defScope s_of_two, [], []⟩
def dd_Run___init__ : He.DefD := ⟨("Run", some "__init__"), "__init__", "Run.__init__", defArgs s_Run___init__, defBody s_Run___init__, defScope s_Run___init__, [], []⟩
def dd_Run_do_list : He.DefD := ⟨("Run", some "do_list"), "do_list", "Run.do_list", defArgs s_Run_do_list, defBody s_Run_do_list, defScope s_Run_do_list, [], []⟩
def dd_Run__do : He.DefD := ⟨("Run", some "_do"), "_do", "Run._do", defArgs s_Run__do, defBody s_Run__do, defScope s_Run__do, [], []⟩
def dd_Run__put : He.DefD := ⟨("Run", some "_put"), "_put", "Run._put", defArgs s_Run__put, defBody s_Run__put, defScope s_Run__put, [], []⟩
def dd_Run__repeat : He.DefD := ⟨("Run", some "_repeat"), "_repeat", "Run._repeat", defArgs s_Run__repeat, defBody s_Run__repeat, defScope s_Run__repeat, [], []⟩
def dd_Run__choose : He.DefD := ⟨("Run", some "_choose"), "_choose", "Run._choose", defArgs s_Run__choose, defBody s_Run__choose, defScope s_Run__choose, [], []⟩
def dd_Run__value : He.DefD := ⟨("Run", some "_value"), "_value", "Run._value", defArgs s_Run__value, defBody s_Run__value, defScope s_Run__value, [], []⟩
def dd_Run__read : He.DefD := ⟨("Run", some "_read"), "_read", "Run._read", defArgs s_Run__read, defBody s_Run__read, defScope s_Run__read, [], []⟩
def dd__law_mix : He.DefD := ⟨("_law_mix", none), "_law_mix", "_law_mix", defArgs s_law_mix, defBody s_law_mix, defScope s_law_mix, [], []⟩
def dd__law_numbers : He.DefD := ⟨("_law_numbers", none), "_law_numbers", "_law_numbers", defArgs s_law_numbers, defBody s_law_numbers, defScope s_law_numbers, [], []⟩
def dd__law_take : He.DefD := ⟨("_law_take", none), "_law_take", "_law_take", defArgs s_law_take, defBody s_law_take, defScope s_law_take, [], []⟩
def dd__law_number : He.DefD := ⟨("_law_number", none), "_law_number", "_law_number", defArgs s_law_number, defBody s_law_number, defScope s_law_number, [], []⟩
def dd__law_exp : He.DefD := ⟨("_law_exp", none), "_law_exp", "_law_exp", defArgs s_law_exp, defBody s_law_exp, defScope s_law_exp, [], []⟩
def dd__law_index : He.DefD := ⟨("_law_index", none), "_law_index", "_law_index", defArgs s_law_index, defBody s_law_index, defScope s_law_index, [], []⟩
def dd__law_cells : He.DefD := ⟨("_law_cells", none), "_law_cells", "_law_cells", defArgs s_law_cells, defBody s_law_cells, defScope s_law_cells, [], []⟩
def dd__law_body : He.DefD := ⟨("_law_body", none), "_law_body", "_law_body", defArgs s_law_body, defBody s_law_body, defScope s_law_body, [], []⟩
def dd__law_statement : He.DefD := ⟨("_law_statement", none), "_law_statement", "_law_statement", defArgs s_law_statement, defBody s_law_statement, defScope s_law_statement, [], []⟩
def dd__law_memory : He.DefD := ⟨("_law_memory", none), "_law_memory", "_law_memory", defArgs s_law_memory, defBody s_law_memory, defScope s_law_memory, [], []⟩
def dd_law : He.DefD := ⟨("law", none), "law", "law", defArgs s_law, defBody s_law, defScope s_law, [], []⟩
def dd_Fault___init__ : He.DefD := ⟨("Fault", some "__init__"), "__init__", "Fault.__init__", defArgs s_Fault___init__, defBody s_Fault___init__, defScope s_Fault___init__, [], []⟩
def dd_Outcome___init__ : He.DefD := ⟨("Outcome", some "__init__"), "__init__", "Outcome.__init__", defArgs s_Outcome___init__, defBody s_Outcome___init__, defScope s_Outcome___init__, [], [("reason", .non)]⟩
def dd_run_block : He.DefD := ⟨("run_block", none), "run_block", "run_block", defArgs s_run_block, defBody s_run_block, defScope s_run_block, [], []⟩
def dd__without_effect : He.DefD := ⟨("_without_effect", none), "_without_effect", "_without_effect", defArgs s_without_effect, defBody s_without_effect, defScope s_without_effect, [], []⟩
def dd_same_outcome : He.DefD := ⟨("same_outcome", none), "same_outcome", "same_outcome", defArgs s_same_outcome, defBody s_same_outcome, defScope s_same_outcome, [], []⟩
def dd__all_of : He.DefD := ⟨("_all_of", none), "_all_of", "_all_of", defArgs s_all_of, defBody s_all_of, defScope s_all_of, [], []⟩
def dd__law_in_range : He.DefD := ⟨("_law_in_range", none), "_law_in_range", "_law_in_range", defArgs s_law_in_range, defBody s_law_in_range, defScope s_law_in_range, [], []⟩
def dd__law_two : He.DefD := ⟨("_law_two", none), "_law_two", "_law_two", defArgs s_law_two, defBody s_law_two, defScope s_law_two, [], []⟩
def dd__law_value : He.DefD := ⟨("_law_value", none), "_law_value", "_law_value", defArgs s_law_value, defBody s_law_value, defScope s_law_value, [], []⟩
def dd__law_place : He.DefD := ⟨("_law_place", none), "_law_place", "_law_place", defArgs s_law_place, defBody s_law_place, defScope s_law_place, [], []⟩
def dd__law_read : He.DefD := ⟨("_law_read", none), "_law_read", "_law_read", defArgs s_law_read, defBody s_law_read, defScope s_law_read, [], []⟩
def dd__law_new : He.DefD := ⟨("_law_new", none), "_law_new", "_law_new", defArgs s_law_new, defBody s_law_new, defScope s_law_new, [], []⟩
def dd__law_runs : He.DefD := ⟨("_law_runs", none), "_law_runs", "_law_runs", defArgs s_law_runs, defBody s_law_runs, defScope s_law_runs, [], []⟩
def dd__law_run_one : He.DefD := ⟨("_law_run_one", none), "_law_run_one", "_law_run_one", defArgs s_law_run_one, defBody s_law_run_one, defScope s_law_run_one, [], []⟩
def dd__law_chosen : He.DefD := ⟨("_law_chosen", none), "_law_chosen", "_law_chosen", defArgs s_law_chosen, defBody s_law_chosen, defScope s_law_chosen, [], []⟩
def dd__law_outcome : He.DefD := ⟨("_law_outcome", none), "_law_outcome", "_law_outcome", defArgs s_law_outcome, defBody s_law_outcome, defScope s_law_outcome, [], []⟩
def dd__law_parts : He.DefD := ⟨("_law_parts", none), "_law_parts", "_law_parts", defArgs s_law_parts, defBody s_law_parts, defScope s_law_parts, [], []⟩
def dd__law_other : He.DefD := ⟨("_law_other", none), "_law_other", "_law_other", defArgs s_law_other, defBody s_law_other, defScope s_law_other, [], []⟩
def fn : List He.DefD := [dd_parts_of, dd_is_value, dd_cell_number, dd_value_with, dd__is_decided, dd__result, dd__truth, dd__of_one, dd__of_two, dd_Run___init__, dd_Run_do_list, dd_Run__do, dd_Run__put, dd_Run__repeat, dd_Run__choose, dd_Run__value, dd_Run__read, dd__law_mix, dd__law_numbers, dd__law_take, dd__law_number, dd__law_exp, dd__law_index, dd__law_cells, dd__law_body, dd__law_statement, dd__law_memory, dd_law, dd_Fault___init__, dd_Outcome___init__, dd_run_block, dd__without_effect, dd_same_outcome, dd__all_of, dd__law_in_range, dd__law_two, dd__law_value, dd__law_place, dd__law_read, dd__law_new, dd__law_runs, dd__law_run_one, dd__law_chosen, dd__law_outcome, dd__law_parts, dd__law_other]
def fa : List He.Fa := [.glo "parts_of", .glo "is_value", .glo "cell_number", .glo "value_with", .glo "_is_decided", .glo "_result", .glo "_truth", .glo "_of_one", .glo "_of_two", .mkr "Run", .meth "Run" "do_list", .meth "Run" "_do", .meth "Run" "_put", .meth "Run" "_repeat", .meth "Run" "_choose", .meth "Run" "_value", .meth "Run" "_read", .glo "_law_mix", .glo "_law_numbers", .glo "_law_take", .glo "_law_number", .glo "_law_exp", .glo "_law_index", .glo "_law_cells", .glo "_law_body", .glo "_law_statement", .glo "_law_memory", .glo "law", .mkr "Outcome", .glo "run_block", .glo "_without_effect", .glo "same_outcome", .glo "_all_of", .glo "_law_in_range", .glo "_law_two", .glo "_law_value", .glo "_law_place", .glo "_law_read", .glo "_law_new", .glo "_law_runs", .glo "_law_run_one", .glo "_law_chosen", .glo "_law_outcome", .glo "_law_parts", .glo "_law_other", .glo "Run", .cls "Run", .noat "Run" "_cells", .noat "Run" "_memory", .noat "Run" "locals_now", .noat "Run" "reads", .noat "Run" "writes", .noat "Run" "later", .glo "Outcome", .cls "Outcome", .noat "Outcome" "kind", .noat "Outcome" "reads", .noat "Outcome" "writes", .noat "Outcome" "finals", .noat "Outcome" "later", .noat "Outcome" "reason", .free "len", .free "int", .free "list", .free "range", .free "isinstance", .free "tuple", .free "str", .free "bool", .free "dict", .int "LEAST" (-1000000000), .int "GREATEST" 1000000000, .int "MOST_TIMES" 20, .glo "LEAVES", .glo "Fault", .exm "Fault" "Fault" true]
def exF (K : PySem.W.Frag) : Bool := He.tupB K "LEAVES" [.str "number", .str "local", .str "slot"] && (oexB K (He.ga K "Fault") && (xfB K (He.ga K "Fault") && (fnB K (He.ga K "Fault") "__init__" (He.fAd K ("Fault", some "__init__")) && (noB K (He.ga K "Fault") "reason" && (true)))))
def tf : List He.Defn := [("Run", some "_value")]
abbrev R : PySem.W.OpenRow := PySem.W.OpenLaw.row PySem.Challenge.rw_handshaker_k13_whole_blocks
abbrev hk : PySem.W.Hook := He.hookX 5 fa fn [] tf exF
def ob (s : PySem.W.SharedT) : He.AlX := He.obsX 5 fa fn [] tf exF (HandSHeadRun.getT s)
theorem ob_eq (s : PySem.W.SharedT) : ob s = hk.obs s.abs := He.obsX_eq (HandSHeadRun.getT_eq s)
def loose : List PySem.Str := (["parts_of", "is_value", "cell_number", "value_with", "_is_decided", "_result", "_truth", "_of_one", "_of_two", "same_outcome", "_all_of", "run_block", "_without_effect", "_law_mix", "_law_numbers", "_law_take", "_law_number", "_law_exp", "_law_index", "_law_cells", "_law_in_range", "_law_two", "_law_value", "_law_place", "_law_read", "_law_new", "_law_body", "_law_statement", "_law_memory", "_law_runs"] : List PySem.Str) ++ (["_law_run_one", "_law_chosen", "_law_outcome", "_law_parts", "_law_other", "HandshakerError", "Fault", "Outcome", "Run", "LEAVES", "MOST_TIMES", "LEAST", "GREATEST"] : List PySem.Str)
theorem run (w : World) : HandSHeadRun.RunEq R (PySem.W.view R.prog [48]) hk ob 3000 loose w := by
  intro os
  kernel_rfl
theorem facts {w : World} {mg : Str → Option Value} {fa' : Addr} {h : Heap} (G : h.Ns mainGlobals mg) (hfa : mg "law" = some (.ref fa')) {K : PySem.W.Frag} (X : K.In h) (c : He.SaysX fa fn [] tf exF w h K) : LamX.LawAtS PySem.Challenge.rw_handshaker_k13_whole_blocks w K CX0 30 63 "script" mg fa' h := by
  have d := c.t.d
  obtain ⟨d0, D0⟩ : ∃ fd, FunD K "parts_of" "parts_of" (defArgs s_parts_of) (defBody s_parts_of) (defScope s_parts_of) [] [] (He.fAd K ("parts_of", none)) fd := d.def_ 0
  have B0 : Binds K d0 ["expression"] [] := D0.bindsN (fun _ _ _ _ _ _ us hl => by
    match us, hl with
    | [_], _ => rfl)
  obtain ⟨d1, D1⟩ : ∃ fd, FunD K "is_value" "is_value" (defArgs s_is_value) (defBody s_is_value) (defScope s_is_value) [] [] (He.fAd K ("is_value", none)) fd := d.def_ 1
  have B1 : Binds K d1 ["value"] [] := D1.bindsN (fun _ _ _ _ _ _ us hl => by
    match us, hl with
    | [_], _ => rfl)
  obtain ⟨d2, D2⟩ : ∃ fd, FunD K "cell_number" "cell_number" (defArgs s_cell_number) (defBody s_cell_number) (defScope s_cell_number) [] [] (He.fAd K ("cell_number", none)) fd := d.def_ 2
  have B2 : Binds K d2 ["cells", "name", "index"] [] := D2.bindsN (fun _ _ _ _ _ _ us hl => by
    match us, hl with
    | [_, _, _], _ => rfl)
  obtain ⟨d3, D3⟩ : ∃ fd, FunD K "value_with" "value_with" (defArgs s_value_with) (defBody s_value_with) (defScope s_value_with) [] [] (He.fAd K ("value_with", none)) fd := d.def_ 3
  have B3 : Binds K d3 ["expression", "look"] [] := D3.bindsN (fun _ _ _ _ _ _ us hl => by
    match us, hl with
    | [_, _], _ => rfl)
  obtain ⟨d4, D4⟩ : ∃ fd, FunD K "_is_decided" "_is_decided" (defArgs s_is_decided) (defBody s_is_decided) (defScope s_is_decided) [] [] (He.fAd K ("_is_decided", none)) fd := d.def_ 4
  have B4 : Binds K d4 ["word", "inner"] [] := D4.bindsN (fun _ _ _ _ _ _ us hl => by
    match us, hl with
    | [_, _], _ => rfl)
  obtain ⟨d5, D5⟩ : ∃ fd, FunD K "_result" "_result" (defArgs s_result) (defBody s_result) (defScope s_result) [] [] (He.fAd K ("_result", none)) fd := d.def_ 5
  have B5 : Binds K d5 ["part", "inner", "look"] [] := D5.bindsN (fun _ _ _ _ _ _ us hl => by
    match us, hl with
    | [_, _, _], _ => rfl)
  obtain ⟨d6, D6⟩ : ∃ fd, FunD K "_truth" "_truth" (defArgs s_truth) (defBody s_truth) (defScope s_truth) [] [] (He.fAd K ("_truth", none)) fd := d.def_ 6
  have B6 : Binds K d6 ["holds"] [] := D6.bindsN (fun _ _ _ _ _ _ us hl => by
    match us, hl with
    | [_], _ => rfl)
  obtain ⟨d7, D7⟩ : ∃ fd, FunD K "_of_one" "_of_one" (defArgs s_of_one) (defBody s_of_one) (defScope s_of_one) [] [] (He.fAd K ("_of_one", none)) fd := d.def_ 7
  have B7 : Binds K d7 ["word", "only"] [] := D7.bindsN (fun _ _ _ _ _ _ us hl => by
    match us, hl with
    | [_, _], _ => rfl)
  obtain ⟨d8, D8⟩ : ∃ fd, FunD K "_of_two" "_of_two" (defArgs s_of_two) (defBody s_of_two) (defScope s_of_two) [] [] (He.fAd K ("_of_two", none)) fd := d.def_ 8
  have B8 : Binds K d8 ["word", "first", "second"] [] := D8.bindsN (fun _ _ _ _ _ _ us hl => by
    match us, hl with
    | [_, _, _], _ => rfl)
  obtain ⟨d9, D9⟩ : ∃ fd, FunD K "__init__" "Run.__init__" (defArgs s_Run___init__) (defBody s_Run___init__) (defScope s_Run___init__) [] [] (He.fAd K ("Run", some "__init__")) fd := d.def_ 9
  have B9 : Binds K d9 ["self", "cells", "locals_now", "memory"] [] := D9.bindsN (fun _ _ _ _ _ _ us hl => by
    match us, hl with
    | [_, _, _, _], _ => rfl)
  obtain ⟨d10, D10⟩ : ∃ fd, FunD K "do_list" "Run.do_list" (defArgs s_Run_do_list) (defBody s_Run_do_list) (defScope s_Run_do_list) [] [] (He.fAd K ("Run", some "do_list")) fd := d.def_ 10
  have B10 : Binds K d10 ["self", "statements"] [] := D10.bindsN (fun _ _ _ _ _ _ us hl => by
    match us, hl with
    | [_, _], _ => rfl)
  obtain ⟨d11, D11⟩ : ∃ fd, FunD K "_do" "Run._do" (defArgs s_Run__do) (defBody s_Run__do) (defScope s_Run__do) [] [] (He.fAd K ("Run", some "_do")) fd := d.def_ 11
  have B11 : Binds K d11 ["self", "statement"] [] := D11.bindsN (fun _ _ _ _ _ _ us hl => by
    match us, hl with
    | [_, _], _ => rfl)
  obtain ⟨d12, D12⟩ : ∃ fd, FunD K "_put" "Run._put" (defArgs s_Run__put) (defBody s_Run__put) (defScope s_Run__put) [] [] (He.fAd K ("Run", some "_put")) fd := d.def_ 12
  have B12 : Binds K d12 ["self", "statement"] [] := D12.bindsN (fun _ _ _ _ _ _ us hl => by
    match us, hl with
    | [_, _], _ => rfl)
  obtain ⟨d13, D13⟩ : ∃ fd, FunD K "_repeat" "Run._repeat" (defArgs s_Run__repeat) (defBody s_Run__repeat) (defScope s_Run__repeat) [] [] (He.fAd K ("Run", some "_repeat")) fd := d.def_ 13
  have B13 : Binds K d13 ["self", "statement"] [] := D13.bindsN (fun _ _ _ _ _ _ us hl => by
    match us, hl with
    | [_, _], _ => rfl)
  obtain ⟨d14, D14⟩ : ∃ fd, FunD K "_choose" "Run._choose" (defArgs s_Run__choose) (defBody s_Run__choose) (defScope s_Run__choose) [] [] (He.fAd K ("Run", some "_choose")) fd := d.def_ 14
  have B14 : Binds K d14 ["self", "statement"] [] := D14.bindsN (fun _ _ _ _ _ _ us hl => by
    match us, hl with
    | [_, _], _ => rfl)
  obtain ⟨d15, D15⟩ : ∃ fd, FunD K "_value" "Run._value" (defArgs s_Run__value) (defBody s_Run__value) (defScope s_Run__value) [] [] (He.fAd K ("Run", some "_value")) fd := d.def_ 15
  have B15 : Binds K d15 ["self", "expression"] [] := D15.bindsN (fun _ _ _ _ _ _ us hl => by
    match us, hl with
    | [_, _], _ => rfl)
  obtain ⟨oc15, od15, dV15, kV15, doc15, pm15, an15, cdv15, ct15, osl15, e15, lk15, hc15, hD15, hK15⟩ := D15.ex
  obtain ⟨cc15, rfl⟩ := He.codeIn_ref hc15
  have ec15 : He.codeOf K ("Run", some "_value") = cc15 := He.codeOf_eq lk15 (by rw [e15])
  obtain ⟨d16, D16⟩ : ∃ fd, FunD K "_read" "Run._read" (defArgs s_Run__read) (defBody s_Run__read) (defScope s_Run__read) [] [] (He.fAd K ("Run", some "_read")) fd := d.def_ 16
  have B16 : Binds K d16 ["self", "cell"] [] := D16.bindsN (fun _ _ _ _ _ _ us hl => by
    match us, hl with
    | [_, _], _ => rfl)
  obtain ⟨d17, D17⟩ : ∃ fd, FunD K "_law_mix" "_law_mix" (defArgs s_law_mix) (defBody s_law_mix) (defScope s_law_mix) [] [] (He.fAd K ("_law_mix", none)) fd := d.def_ 17
  have B17 : Binds K d17 ["number", "k"] [] := D17.bindsN (fun _ _ _ _ _ _ us hl => by
    match us, hl with
    | [_, _], _ => rfl)
  obtain ⟨d18, D18⟩ : ∃ fd, FunD K "_law_numbers" "_law_numbers" (defArgs s_law_numbers) (defBody s_law_numbers) (defScope s_law_numbers) [] [] (He.fAd K ("_law_numbers", none)) fd := d.def_ 18
  have B18 : Binds K d18 ["script", "count"] [] := D18.bindsN (fun _ _ _ _ _ _ us hl => by
    match us, hl with
    | [_, _], _ => rfl)
  obtain ⟨d19, D19⟩ : ∃ fd, FunD K "_law_take" "_law_take" (defArgs s_law_take) (defBody s_law_take) (defScope s_law_take) [] [] (He.fAd K ("_law_take", none)) fd := d.def_ 19
  have B19 : Binds K d19 ["row", "bound"] [] := D19.bindsN (fun _ _ _ _ _ _ us hl => by
    match us, hl with
    | [_, _], _ => rfl)
  obtain ⟨d20, D20⟩ : ∃ fd, FunD K "_law_number" "_law_number" (defArgs s_law_number) (defBody s_law_number) (defScope s_law_number) [] [] (He.fAd K ("_law_number", none)) fd := d.def_ 20
  have B20 : Binds K d20 ["row"] [] := D20.bindsN (fun _ _ _ _ _ _ us hl => by
    match us, hl with
    | [_], _ => rfl)
  obtain ⟨d21, D21⟩ : ∃ fd, FunD K "_law_exp" "_law_exp" (defArgs s_law_exp) (defBody s_law_exp) (defScope s_law_exp) [] [] (He.fAd K ("_law_exp", none)) fd := d.def_ 21
  have B21 : Binds K d21 ["row", "depth", "cells", "names"] [] := D21.bindsN (fun _ _ _ _ _ _ us hl => by
    match us, hl with
    | [_, _, _, _], _ => rfl)
  obtain ⟨d22, D22⟩ : ∃ fd, FunD K "_law_index" "_law_index" (defArgs s_law_index) (defBody s_law_index) (defScope s_law_index) [] [] (He.fAd K ("_law_index", none)) fd := d.def_ 22
  have B22 : Binds K d22 ["row", "depth", "cells", "names"] [] := D22.bindsN (fun _ _ _ _ _ _ us hl => by
    match us, hl with
    | [_, _, _, _], _ => rfl)
  obtain ⟨d23, D23⟩ : ∃ fd, FunD K "_law_cells" "_law_cells" (defArgs s_law_cells) (defBody s_law_cells) (defScope s_law_cells) [] [] (He.fAd K ("_law_cells", none)) fd := d.def_ 23
  have B23 : Binds K d23 [] [] := D23.bindsN (fun _ _ _ _ _ _ us hl => by
    match us, hl with
    | [], _ => rfl)
  obtain ⟨d24, D24⟩ : ∃ fd, FunD K "_law_body" "_law_body" (defArgs s_law_body) (defBody s_law_body) (defScope s_law_body) [] [] (He.fAd K ("_law_body", none)) fd := d.def_ 24
  have B24 : Binds K d24 ["row", "depth", "names", "repeats"] [] := D24.bindsN (fun _ _ _ _ _ _ us hl => by
    match us, hl with
    | [_, _, _, _], _ => rfl)
  obtain ⟨d25, D25⟩ : ∃ fd, FunD K "_law_statement" "_law_statement" (defArgs s_law_statement) (defBody s_law_statement) (defScope s_law_statement) [] [] (He.fAd K ("_law_statement", none)) fd := d.def_ 25
  have B25 : Binds K d25 ["row", "depth", "names", "repeats"] [] := D25.bindsN (fun _ _ _ _ _ _ us hl => by
    match us, hl with
    | [_, _, _, _], _ => rfl)
  obtain ⟨d26, D26⟩ : ∃ fd, FunD K "_law_memory" "_law_memory" (defArgs s_law_memory) (defBody s_law_memory) (defScope s_law_memory) [] [] (He.fAd K ("_law_memory", none)) fd := d.def_ 26
  have B26 : Binds K d26 ["row"] [] := D26.bindsN (fun _ _ _ _ _ _ us hl => by
    match us, hl with
    | [_], _ => rfl)
  obtain ⟨d27, D27⟩ : ∃ fd, FunD K "law" "law" (defArgs s_law) (defBody s_law) (defScope s_law) [] [] (He.fAd K ("law", none)) fd := d.def_ 27
  have B27 : Binds K d27 ["script"] [] := D27.bindsN (fun _ _ _ _ _ _ us hl => by
    match us, hl with
    | [_], _ => rfl)
  obtain ⟨d28, D28⟩ : ∃ fd, FunD K "__init__" "Fault.__init__" (defArgs s_Fault___init__) (defBody s_Fault___init__) (defScope s_Fault___init__) [] [] (He.fAd K ("Fault", some "__init__")) fd := d.def_ 28
  have B28 : Binds K d28 ["self", "reason"] [] := D28.bindsN (fun _ _ _ _ _ _ us hl => by
    match us, hl with
    | [_, _], _ => rfl)
  obtain ⟨d29, D29⟩ : ∃ fd, FunD K "__init__" "Outcome.__init__" (defArgs s_Outcome___init__) (defBody s_Outcome___init__) (defScope s_Outcome___init__) [] [("reason", .non)] (He.fAd K ("Outcome", some "__init__")) fd := d.def_ 29
  obtain ⟨d30, D30⟩ : ∃ fd, FunD K "run_block" "run_block" (defArgs s_run_block) (defBody s_run_block) (defScope s_run_block) [] [] (He.fAd K ("run_block", none)) fd := d.def_ 30
  have B30 : Binds K d30 ["body", "cells", "locals_now", "memory"] [] := D30.bindsN (fun _ _ _ _ _ _ us hl => by
    match us, hl with
    | [_, _, _, _], _ => rfl)
  obtain ⟨d31, D31⟩ : ∃ fd, FunD K "_without_effect" "_without_effect" (defArgs s_without_effect) (defBody s_without_effect) (defScope s_without_effect) [] [] (He.fAd K ("_without_effect", none)) fd := d.def_ 31
  have B31 : Binds K d31 ["kind", "reads", "locals_now", "reason"] [] := D31.bindsN (fun _ _ _ _ _ _ us hl => by
    match us, hl with
    | [_, _, _, _], _ => rfl)
  obtain ⟨d32, D32⟩ : ∃ fd, FunD K "same_outcome" "same_outcome" (defArgs s_same_outcome) (defBody s_same_outcome) (defScope s_same_outcome) [] [] (He.fAd K ("same_outcome", none)) fd := d.def_ 32
  have B32 : Binds K d32 ["outcome", "other"] [] := D32.bindsN (fun _ _ _ _ _ _ us hl => by
    match us, hl with
    | [_, _], _ => rfl)
  obtain ⟨d33, D33⟩ : ∃ fd, FunD K "_all_of" "_all_of" (defArgs s_all_of) (defBody s_all_of) (defScope s_all_of) [] [] (He.fAd K ("_all_of", none)) fd := d.def_ 33
  have B33 : Binds K d33 ["outcome"] [] := D33.bindsN (fun _ _ _ _ _ _ us hl => by
    match us, hl with
    | [_], _ => rfl)
  obtain ⟨d34, D34⟩ : ∃ fd, FunD K "_law_in_range" "_law_in_range" (defArgs s_law_in_range) (defBody s_law_in_range) (defScope s_law_in_range) [] [] (He.fAd K ("_law_in_range", none)) fd := d.def_ 34
  have B34 : Binds K d34 ["number"] [] := D34.bindsN (fun _ _ _ _ _ _ us hl => by
    match us, hl with
    | [_], _ => rfl)
  obtain ⟨d35, D35⟩ : ∃ fd, FunD K "_law_two" "_law_two" (defArgs s_law_two) (defBody s_law_two) (defScope s_law_two) [] [] (He.fAd K ("_law_two", none)) fd := d.def_ 35
  have B35 : Binds K d35 ["kind", "first", "second"] [] := D35.bindsN (fun _ _ _ _ _ _ us hl => by
    match us, hl with
    | [_, _, _], _ => rfl)
  obtain ⟨d36, D36⟩ : ∃ fd, FunD K "_law_value" "_law_value" (defArgs s_law_value) (defBody s_law_value) (defScope s_law_value) [] [] (He.fAd K ("_law_value", none)) fd := d.def_ 36
  have B36 : Binds K d36 ["world", "exp"] [] := D36.bindsN (fun _ _ _ _ _ _ us hl => by
    match us, hl with
    | [_, _], _ => rfl)
  obtain ⟨d37, D37⟩ : ∃ fd, FunD K "_law_place" "_law_place" (defArgs s_law_place) (defBody s_law_place) (defScope s_law_place) [] [] (He.fAd K ("_law_place", none)) fd := d.def_ 37
  have B37 : Binds K d37 ["cells", "name", "index"] [] := D37.bindsN (fun _ _ _ _ _ _ us hl => by
    match us, hl with
    | [_, _, _], _ => rfl)
  obtain ⟨d38, D38⟩ : ∃ fd, FunD K "_law_read" "_law_read" (defArgs s_law_read) (defBody s_law_read) (defScope s_law_read) [] [] (He.fAd K ("_law_read", none)) fd := d.def_ 38
  have B38 : Binds K d38 ["world", "number"] [] := D38.bindsN (fun _ _ _ _ _ _ us hl => by
    match us, hl with
    | [_, _], _ => rfl)
  obtain ⟨d39, D39⟩ : ∃ fd, FunD K "_law_new" "_law_new" (defArgs s_law_new) (defBody s_law_new) (defScope s_law_new) [] [] (He.fAd K ("_law_new", none)) fd := d.def_ 39
  have B39 : Binds K d39 ["cells", "names", "memory"] [] := D39.bindsN (fun _ _ _ _ _ _ us hl => by
    match us, hl with
    | [_, _, _], _ => rfl)
  obtain ⟨d40, D40⟩ : ∃ fd, FunD K "_law_runs" "_law_runs" (defArgs s_law_runs) (defBody s_law_runs) (defScope s_law_runs) [] [] (He.fAd K ("_law_runs", none)) fd := d.def_ 40
  have B40 : Binds K d40 ["world", "body"] [] := D40.bindsN (fun _ _ _ _ _ _ us hl => by
    match us, hl with
    | [_, _], _ => rfl)
  obtain ⟨d41, D41⟩ : ∃ fd, FunD K "_law_run_one" "_law_run_one" (defArgs s_law_run_one) (defBody s_law_run_one) (defScope s_law_run_one) [] [] (He.fAd K ("_law_run_one", none)) fd := d.def_ 41
  have B41 : Binds K d41 ["world", "statement"] [] := D41.bindsN (fun _ _ _ _ _ _ us hl => by
    match us, hl with
    | [_, _], _ => rfl)
  obtain ⟨d42, D42⟩ : ∃ fd, FunD K "_law_chosen" "_law_chosen" (defArgs s_law_chosen) (defBody s_law_chosen) (defScope s_law_chosen) [] [] (He.fAd K ("_law_chosen", none)) fd := d.def_ 42
  have B42 : Binds K d42 ["world", "statement"] [] := D42.bindsN (fun _ _ _ _ _ _ us hl => by
    match us, hl with
    | [_, _], _ => rfl)
  obtain ⟨d43, D43⟩ : ∃ fd, FunD K "_law_outcome" "_law_outcome" (defArgs s_law_outcome) (defBody s_law_outcome) (defScope s_law_outcome) [] [] (He.fAd K ("_law_outcome", none)) fd := d.def_ 43
  have B43 : Binds K d43 ["body", "cells", "names", "memory"] [] := D43.bindsN (fun _ _ _ _ _ _ us hl => by
    match us, hl with
    | [_, _, _, _], _ => rfl)
  obtain ⟨d44, D44⟩ : ∃ fd, FunD K "_law_parts" "_law_parts" (defArgs s_law_parts) (defBody s_law_parts) (defScope s_law_parts) [] [] (He.fAd K ("_law_parts", none)) fd := d.def_ 44
  have B44 : Binds K d44 ["outcome"] [] := D44.bindsN (fun _ _ _ _ _ _ us hl => by
    match us, hl with
    | [_], _ => rfl)
  obtain ⟨d45, D45⟩ : ∃ fd, FunD K "_law_other" "_law_other" (defArgs s_law_other) (defBody s_law_other) (defScope s_law_other) [] [] (He.fAd K ("_law_other", none)) fd := d.def_ 45
  have B45 : Binds K d45 ["row", "parts"] [] := D45.bindsN (fun _ _ _ _ _ _ us hl => by
    match us, hl with
    | [_, _], _ => rfl)
  obtain ⟨t_LEAST, g_LEAST⟩ := He.int_ok X G (d.fact 70 (f := .int "LEAST" (-1000000000)))
  obtain ⟨t_GREATEST, g_GREATEST⟩ := He.int_ok X G (d.fact 71 (f := .int "GREATEST" 1000000000))
  obtain ⟨t_MOST_TIMES, g_MOST_TIMES⟩ := He.int_ok X G (d.fact 72 (f := .int "MOST_TIMES" 20))
  have m0 := c.more
  obtain ⟨M0, m1⟩ := Bool.and_eq_true_iff.mp m0
  obtain ⟨M1, m2⟩ := Bool.and_eq_true_iff.mp m1
  obtain ⟨M2, m3⟩ := Bool.and_eq_true_iff.mp m2
  obtain ⟨M3, m4⟩ := Bool.and_eq_true_iff.mp m3
  obtain ⟨M4, m5⟩ := Bool.and_eq_true_iff.mp m4
  obtain ⟨A, eA⟩ : ∃ A : Adr, A = { a_parts_of := He.fAd K ("parts_of", none), d_parts_of := d0, a_is_value := He.fAd K ("is_value", none), d_is_value := d1, a_cell_number := He.fAd K ("cell_number", none), d_cell_number := d2, a_value_with := He.fAd K ("value_with", none), d_value_with := d3, a__is_decided := He.fAd K ("_is_decided", none), d__is_decided := d4, a__result := He.fAd K ("_result", none), d__result := d5, a__truth := He.fAd K ("_truth", none), d__truth := d6, a__of_one := He.fAd K ("_of_one", none), d__of_one := d7, a__of_two := He.fAd K ("_of_two", none), d__of_two := d8, a_Run___init__ := He.fAd K ("Run", some "__init__"), d_Run___init__ := d9, a_Run_do_list := He.fAd K ("Run", some "do_list"), d_Run_do_list := d10, a_Run__do := He.fAd K ("Run", some "_do"), d_Run__do := d11, a_Run__put := He.fAd K ("Run", some "_put"), d_Run__put := d12, a_Run__repeat := He.fAd K ("Run", some "_repeat"), d_Run__repeat := d13, a_Run__choose := He.fAd K ("Run", some "_choose"), d_Run__choose := d14, a_Run__value := He.fAd K ("Run", some "_value"), d_Run__value := d15, c_Run__value := (He.cT K ("Run", some "_value")).1, t_Run__value := (He.cT K ("Run", some "_value")).2, a_Run__read := He.fAd K ("Run", some "_read"), d_Run__read := d16, a__law_mix := He.fAd K ("_law_mix", none), d__law_mix := d17, a__law_numbers := He.fAd K ("_law_numbers", none), d__law_numbers := d18, a__law_take := He.fAd K ("_law_take", none), d__law_take := d19, a__law_number := He.fAd K ("_law_number", none), d__law_number := d20, a__law_exp := He.fAd K ("_law_exp", none), d__law_exp := d21, a__law_index := He.fAd K ("_law_index", none), d__law_index := d22, a__law_cells := He.fAd K ("_law_cells", none), d__law_cells := d23, a__law_body := He.fAd K ("_law_body", none), d__law_body := d24, a__law_statement := He.fAd K ("_law_statement", none), d__law_statement := d25, a__law_memory := He.fAd K ("_law_memory", none), d__law_memory := d26, a_law := He.fAd K ("law", none), d_law := d27, a_Fault___init__ := He.fAd K ("Fault", some "__init__"), d_Fault___init__ := d28, a_Outcome___init__ := He.fAd K ("Outcome", some "__init__"), d_Outcome___init__ := d29, a_run_block := He.fAd K ("run_block", none), d_run_block := d30, a__without_effect := He.fAd K ("_without_effect", none), d__without_effect := d31, a_same_outcome := He.fAd K ("same_outcome", none), d_same_outcome := d32, a__all_of := He.fAd K ("_all_of", none), d__all_of := d33, a__law_in_range := He.fAd K ("_law_in_range", none), d__law_in_range := d34, a__law_two := He.fAd K ("_law_two", none), d__law_two := d35, a__law_value := He.fAd K ("_law_value", none), d__law_value := d36, a__law_place := He.fAd K ("_law_place", none), d__law_place := d37, a__law_read := He.fAd K ("_law_read", none), d__law_read := d38, a__law_new := He.fAd K ("_law_new", none), d__law_new := d39, a__law_runs := He.fAd K ("_law_runs", none), d__law_runs := d40, a__law_run_one := He.fAd K ("_law_run_one", none), d__law_run_one := d41, a__law_chosen := He.fAd K ("_law_chosen", none), d__law_chosen := d42, a__law_outcome := He.fAd K ("_law_outcome", none), d__law_outcome := d43, a__law_parts := He.fAd K ("_law_parts", none), d__law_parts := d44, a__law_other := He.fAd K ("_law_other", none), d__law_other := d45, t_LEAST := t_LEAST, t_GREATEST := t_GREATEST, t_MOST_TIMES := t_MOST_TIMES, a_LEAVES := He.ga K "LEAVES", a_Fault := He.ga K "Fault", a_Run := He.ga K "Run", a_Outcome := He.ga K "Outcome" } := ⟨_, rfl⟩
  have T : Txt K mg A := by
    subst eA
    exact { b_parts_of := (B0), F_parts_of := (fun_of D0), g_parts_of := (He.glo_ok X G (d.fact 0 (f := .glo "parts_of"))), b_is_value := (B1), F_is_value := (fun_of D1), g_is_value := (He.glo_ok X G (d.fact 1 (f := .glo "is_value"))), b_cell_number := (B2), F_cell_number := (fun_of D2), g_cell_number := (He.glo_ok X G (d.fact 2 (f := .glo "cell_number"))), b_value_with := (B3), F_value_with := (fun_of D3), g_value_with := (He.glo_ok X G (d.fact 3 (f := .glo "value_with"))), b__is_decided := (B4), F__is_decided := (fun_of D4), g__is_decided := (He.glo_ok X G (d.fact 4 (f := .glo "_is_decided"))), b__result := (B5), F__result := (fun_of D5), g__result := (He.glo_ok X G (d.fact 5 (f := .glo "_result"))), b__truth := (B6), F__truth := (fun_of D6), g__truth := (He.glo_ok X G (d.fact 6 (f := .glo "_truth"))), b__of_one := (B7), F__of_one := (fun_of D7), g__of_one := (He.glo_ok X G (d.fact 7 (f := .glo "_of_one"))), b__of_two := (B8), F__of_two := (fun_of D8), g__of_two := (He.glo_ok X G (d.fact 8 (f := .glo "_of_two"))), b_Run___init__ := (B9), F_Run___init__ := (fun_of D9), b_Run_do_list := (B10), F_Run_do_list := (fun_of D10), b_Run__do := (B11), F_Run__do := (fun_of D11), b_Run__put := (B12), F_Run__put := (fun_of D12), b_Run__repeat := (B13), F_Run__repeat := (fun_of D13), b_Run__choose := (B14), F_Run__choose := (fun_of D14), b_Run__value := (B15), L_Run__value := (⟨oc15, od15, dV15, kV15, doc15, pm15, an15, ct15, osl15, by rw [show (He.cT K ("Run", some "_value")).1 = cc15 from ec15]; exact e15, lk15⟩), C_Run__value := (by rw [show (He.cT K ("Run", some "_value")).1 = cc15 from ec15]; exact hc15), kp_Run__value := (D15.kp), b_Run__read := (B16), F_Run__read := (fun_of D16), b__law_mix := (B17), F__law_mix := (fun_of D17), g__law_mix := (He.glo_ok X G (d.fact 17 (f := .glo "_law_mix"))), b__law_numbers := (B18), F__law_numbers := (fun_of D18), g__law_numbers := (He.glo_ok X G (d.fact 18 (f := .glo "_law_numbers"))), b__law_take := (B19), F__law_take := (fun_of D19), g__law_take := (He.glo_ok X G (d.fact 19 (f := .glo "_law_take"))), b__law_number := (B20), F__law_number := (fun_of D20), g__law_number := (He.glo_ok X G (d.fact 20 (f := .glo "_law_number"))), b__law_exp := (B21), F__law_exp := (fun_of D21), g__law_exp := (He.glo_ok X G (d.fact 21 (f := .glo "_law_exp"))), b__law_index := (B22), F__law_index := (fun_of D22), g__law_index := (He.glo_ok X G (d.fact 22 (f := .glo "_law_index"))), b__law_cells := (B23), F__law_cells := (fun_of D23), g__law_cells := (He.glo_ok X G (d.fact 23 (f := .glo "_law_cells"))), b__law_body := (B24), F__law_body := (fun_of D24), g__law_body := (He.glo_ok X G (d.fact 24 (f := .glo "_law_body"))), b__law_statement := (B25), F__law_statement := (fun_of D25), g__law_statement := (He.glo_ok X G (d.fact 25 (f := .glo "_law_statement"))), b__law_memory := (B26), F__law_memory := (fun_of D26), g__law_memory := (He.glo_ok X G (d.fact 26 (f := .glo "_law_memory"))), b_law := (B27), F_law := (fun_of D27), g_law := (He.glo_ok X G (d.fact 27 (f := .glo "law"))), b_Fault___init__ := (B28), F_Fault___init__ := (fun_of D28), K_Outcome___init__ := (D29), b_run_block := (B30), F_run_block := (fun_of D30), g_run_block := (He.glo_ok X G (d.fact 29 (f := .glo "run_block"))), b__without_effect := (B31), F__without_effect := (fun_of D31), g__without_effect := (He.glo_ok X G (d.fact 30 (f := .glo "_without_effect"))), b_same_outcome := (B32), F_same_outcome := (fun_of D32), g_same_outcome := (He.glo_ok X G (d.fact 31 (f := .glo "same_outcome"))), b__all_of := (B33), F__all_of := (fun_of D33), g__all_of := (He.glo_ok X G (d.fact 32 (f := .glo "_all_of"))), b__law_in_range := (B34), F__law_in_range := (fun_of D34), g__law_in_range := (He.glo_ok X G (d.fact 33 (f := .glo "_law_in_range"))), b__law_two := (B35), F__law_two := (fun_of D35), g__law_two := (He.glo_ok X G (d.fact 34 (f := .glo "_law_two"))), b__law_value := (B36), F__law_value := (fun_of D36), g__law_value := (He.glo_ok X G (d.fact 35 (f := .glo "_law_value"))), b__law_place := (B37), F__law_place := (fun_of D37), g__law_place := (He.glo_ok X G (d.fact 36 (f := .glo "_law_place"))), b__law_read := (B38), F__law_read := (fun_of D38), g__law_read := (He.glo_ok X G (d.fact 37 (f := .glo "_law_read"))), b__law_new := (B39), F__law_new := (fun_of D39), g__law_new := (He.glo_ok X G (d.fact 38 (f := .glo "_law_new"))), b__law_runs := (B40), F__law_runs := (fun_of D40), g__law_runs := (He.glo_ok X G (d.fact 39 (f := .glo "_law_runs"))), b__law_run_one := (B41), F__law_run_one := (fun_of D41), g__law_run_one := (He.glo_ok X G (d.fact 40 (f := .glo "_law_run_one"))), b__law_chosen := (B42), F__law_chosen := (fun_of D42), g__law_chosen := (He.glo_ok X G (d.fact 41 (f := .glo "_law_chosen"))), b__law_outcome := (B43), F__law_outcome := (fun_of D43), g__law_outcome := (He.glo_ok X G (d.fact 42 (f := .glo "_law_outcome"))), b__law_parts := (B44), F__law_parts := (fun_of D44), g__law_parts := (He.glo_ok X G (d.fact 43 (f := .glo "_law_parts"))), b__law_other := (B45), F__law_other := (fun_of D45), g__law_other := (He.glo_ok X G (d.fact 44 (f := .glo "_law_other"))), n_len := (He.free_ok X G (d.fact 61 (f := .free "len"))), n_int := (He.free_ok X G (d.fact 62 (f := .free "int"))), n_list := (He.free_ok X G (d.fact 63 (f := .free "list"))), n_range := (He.free_ok X G (d.fact 64 (f := .free "range"))), n_isinstance := (He.free_ok X G (d.fact 65 (f := .free "isinstance"))), n_tuple := (He.free_ok X G (d.fact 66 (f := .free "tuple"))), n_str := (He.free_ok X G (d.fact 67 (f := .free "str"))), n_bool := (He.free_ok X G (d.fact 68 (f := .free "bool"))), n_dict := (He.free_ok X G (d.fact 69 (f := .free "dict"))), g_LEAST := (g_LEAST), g_GREATEST := (g_GREATEST), g_MOST_TIMES := (g_MOST_TIMES), z_LEAVES := (He.tupB_ok M0), Fault_o := (oexB_ok M1), Fault_x := (xfB_ok M2), Fault_i := (of_decide_eq_true (Bool.and_eq_true_iff.mp M3).1), Fault_t := (of_decide_eq_true (Bool.and_eq_true_iff.mp M3).2), no_Fault_reason := (of_decide_eq_true M4), g_LEAVES := (He.glo_ok X G (d.fact 73 (f := .glo "LEAVES"))), g_Fault := (He.glo_ok X G (d.fact 74 (f := .glo "Fault"))), g_Run := (He.glo_ok X G (d.fact 45 (f := .glo "Run"))), cl_Run := (He.cls_ok (d.fact 46 (f := .cls "Run"))), no_Run__cells := (He.noat_ok (d.fact 47 (f := .noat "Run" "_cells"))), no_Run__memory := (He.noat_ok (d.fact 48 (f := .noat "Run" "_memory"))), no_Run_locals_now := (He.noat_ok (d.fact 49 (f := .noat "Run" "locals_now"))), no_Run_reads := (He.noat_ok (d.fact 50 (f := .noat "Run" "reads"))), no_Run_writes := (He.noat_ok (d.fact 51 (f := .noat "Run" "writes"))), no_Run_later := (He.noat_ok (d.fact 52 (f := .noat "Run" "later"))), mk_Run := (He.mkr_ok (d.fact 9 (f := .mkr "Run"))), m_Run_do_list := (He.meth_ok (d.fact 10 (f := .meth "Run" "do_list"))), m_Run__do := (He.meth_ok (d.fact 11 (f := .meth "Run" "_do"))), m_Run__put := (He.meth_ok (d.fact 12 (f := .meth "Run" "_put"))), m_Run__repeat := (He.meth_ok (d.fact 13 (f := .meth "Run" "_repeat"))), m_Run__choose := (He.meth_ok (d.fact 14 (f := .meth "Run" "_choose"))), m_Run__value := (He.meth_ok (d.fact 15 (f := .meth "Run" "_value"))), m_Run__read := (He.meth_ok (d.fact 16 (f := .meth "Run" "_read"))), g_Outcome := (He.glo_ok X G (d.fact 53 (f := .glo "Outcome"))), cl_Outcome := (He.cls_ok (d.fact 54 (f := .cls "Outcome"))), no_Outcome_kind := (He.noat_ok (d.fact 55 (f := .noat "Outcome" "kind"))), no_Outcome_reads := (He.noat_ok (d.fact 56 (f := .noat "Outcome" "reads"))), no_Outcome_writes := (He.noat_ok (d.fact 57 (f := .noat "Outcome" "writes"))), no_Outcome_finals := (He.noat_ok (d.fact 58 (f := .noat "Outcome" "finals"))), no_Outcome_later := (He.noat_ok (d.fact 59 (f := .noat "Outcome" "later"))), no_Outcome_reason := (He.noat_ok (d.fact 60 (f := .noat "Outcome" "reason"))), mk_Outcome := (He.mkr_ok (d.fact 28 (f := .mkr "Outcome"))), e_Fault_Fault := (He.exm_ok (d.fact 75 (f := .exm "Fault" "Fault" true))) }
  have ea : fa' = A.a_law := by
    have h1 := T.g_law
    rw [hfa] at h1
    cases h1
    rfl
  have el : A.d_law = d27 := by rw [eA]
  subst ea
  refine ⟨d27, tf.map (He.cT K), spLaw K A, fun p hp => ?_, fun p hp => ?_, fun p hp => ?_, fun s u => D27.bindsA (ps := ["script"]) (fun _ _ _ _ _ _ us hl => by
    match us, hl with
    | [_], _ => rfl) s [u] rfl, fun H a ns hl _ ht hS => ?_, fun base KB GB TB => ?_⟩
  · obtain ⟨q, hq, rfl⟩ := List.mem_map.mp hp
    exact c.empty q hq
  · obtain ⟨q, hq, rfl⟩ := List.mem_map.mp hp
    exact c.out q hq
  · obtain ⟨q, hq, rfl⟩ := List.mem_map.mp hp
    exact PySem.W.codeHd_of_K X (c.hd q hq)
  · exact law_at (by first | exact ht | (rw [eA]; exact ht)) hS
  · rw [← el]
    exact law_ok (by first | exact TB | (rw [eA]; exact TB)) T
end K13
open PySem PySem.W PySem.Calls PyProof.Rows in
set_option maxRecDepth 100000 in
set_option maxHeartbeats 0 in
theorem PySem.Challenge.cw_handshaker_k13_whole_blocks_holds : PySem.Challenge.rw_handshaker_k13_whole_blocks.Holds := by
  w_on; o_law
  refine HandSHeadRun.head_any (r := OpenLaw.row PySem.Challenge.rw_handshaker_k13_whole_blocks) (q := view (OpenLaw.row PySem.Challenge.rw_handshaker_k13_whole_blocks).prog [48]) (H := K13.hk) (ob := K13.ob) (M := 3000) (loose := K13.loose) (d := HandSHeadRun.topDef (OpenLaw.row PySem.Challenge.rw_handshaker_k13_whole_blocks).prog 48) (kwd := []) K13.ob_eq
    (by kernel_rfl) (fun s => by kernel_rfl) K13.run (by kernel_rfl) (by kernel_rfl) (by kernel_rfl) (by rfl) (by first | assumption | decide +kernel) (by decide +kernel) ⟨rfl, rfl, rfl, rfl, rfl, by decide +kernel⟩ ?hw ?hc
  case hw => w_witness2
  case hc =>
    refine LamX.walk_ofTsE (l := PySem.Challenge.rw_handshaker_k13_whole_blocks) (n := 63) (k := 30) (x := "script") (CX := fun _ => L2.CX0) rfl (by decide) (by kernel_rfl) ⟨rfl, by decide, by decide⟩ ?F (fun _ _ _ _ _ z => z)
    intro w mg fa h Y G hmg0
    obtain ⟨K, KX, c⟩ := Y
    have hmg : mg ("law" : PySem.Str) = some (.ref fa) := by
      have e : (HandSHeadRun.topDef (OpenLaw.row PySem.Challenge.rw_handshaker_k13_whole_blocks).prog 48).name = ("law" : PySem.Str) := by kernel_rfl
      rw [← e]
      exact hmg0
    exact ⟨K, KX, K13.facts G hmg KX c⟩

